/- Part of a proof: a logic of values by content, lifted functions, what follows. -/
import Derived.Test.YtbpeickbdiihcaaGreatDoorQbf
import Derived.Test.YtbpeickbdiihcaaGreatDoorQbi
import Derived.Test.YtbpeickbdiihcaaGreatDoorQbk
import Derived.Test.YtbpeickbdiihcaaGreatDoorQbl
set_option linter.all false
set_option maxRecDepth 4000
set_option maxHeartbeats 4000000
section
namespace Go.V
open Go Go.Proofs
def g_sight_Letters_l2 (r3 : Gsightview) (c0_28 : Int) (c1_20 : Int) : Nat → Int → Bool → Bool → Int → Option (LOut (Int) (Bool × Bool × Int))
 | 0, c2_33, c2_5, c2_6, c2_o0 => some (.go (c2_5, c2_6, c2_o0))
 | k2 + 1, c2_33, c2_5, c2_6, c2_o0 => Option.bind (g_sight_view_isLegible (Gsightview.mk r3.SightStreet r3.SightPlace r3.board (IntKind.i64.wrap ((IntKind.i64.wrap (r3.SightStreet.Eye.Low + c1_20)) * (IntKind.i64.wrap (r3.SightStreet.Light.Low + c2_33))))) c0_28) (fun r9 => cond (c2_5) (cond (c2_6) (cond (r9) (g_sight_Letters_l2 r3 c0_28 c1_20 k2 (c2_33 + 1) true true (IntKind.i64.wrap ((IntKind.i64.wrap (r3.SightStreet.Eye.Low + c1_20)) * (IntKind.i64.wrap (r3.SightStreet.Light.Low + c2_33))))) (some (.brk 0 (false, true, IntKind.i64.wrap ((IntKind.i64.wrap (r3.SightStreet.Eye.Low + c1_20)) * (IntKind.i64.wrap (r3.SightStreet.Light.Low + c2_33))))))) (cond (r9) (g_sight_Letters_l2 r3 c0_28 c1_20 k2 (c2_33 + 1) true true (IntKind.i64.wrap ((IntKind.i64.wrap (r3.SightStreet.Eye.Low + c1_20)) * (IntKind.i64.wrap (r3.SightStreet.Light.Low + c2_33))))) (g_sight_Letters_l2 r3 c0_28 c1_20 k2 (c2_33 + 1) false false (IntKind.i64.wrap ((IntKind.i64.wrap (r3.SightStreet.Eye.Low + c1_20)) * (IntKind.i64.wrap (r3.SightStreet.Light.Low + c2_33))))))) (cond (c2_6) (some (.brk 0 (false, true, IntKind.i64.wrap ((IntKind.i64.wrap (r3.SightStreet.Eye.Low + c1_20)) * (IntKind.i64.wrap (r3.SightStreet.Light.Low + c2_33)))))) (cond (r9) (some (.brk 0 (false, true, IntKind.i64.wrap ((IntKind.i64.wrap (r3.SightStreet.Eye.Low + c1_20)) * (IntKind.i64.wrap (r3.SightStreet.Light.Low + c2_33)))))) (g_sight_Letters_l2 r3 c0_28 c1_20 k2 (c2_33 + 1) false false (IntKind.i64.wrap ((IntKind.i64.wrap (r3.SightStreet.Eye.Low + c1_20)) * (IntKind.i64.wrap (r3.SightStreet.Light.Low + c2_33))))))))
def g_sight_Letters_l1 (r3 : Gsightview) (c0_28 : Int) : Nat → Int → Bool → Bool → Int → Option (LOut (Int) (Bool × Bool × Int))
 | 0, c1_20, c1_5, c1_6, c1_o0 => some (.go (c1_5, c1_6, c1_o0))
 | k1 + 1, c1_20, c1_5, c1_6, c1_o0 => cond (boundOk (IntKind.i64.wrap ((IntKind.i64.wrap (r3.SightStreet.Light.High - r3.SightStreet.Light.Low)) + 1))) (lbind (g_sight_Letters_l2 r3 c0_28 c1_20 (Int.toNat ((IntKind.i64.wrap ((IntKind.i64.wrap (r3.SightStreet.Light.High - r3.SightStreet.Light.Low)) + 1)) - 0)) 0 c1_5 c1_6 c1_o0) (fun r11 => some (.ret r11)) (fun c10 => g_sight_Letters_l1 r3 c0_28 k1 (c1_20 + 1) c10.1 c10.2.1 c10.2.2) (fun _ c12 => some (.go (c12.1, c12.2.1, c12.2.2)))) none
def g_sight_Letters_l0 (r3 : Gsightview) : List GSightLetter → Int → (List Int) → Option (LOut ((List Int) × Int) ((List Int)))
 | [], c0_28, c0_9 => some (.go c0_9)
 | e0 :: p0, c0_28, c0_9 => cond (boundOk (IntKind.i64.wrap ((IntKind.i64.wrap (r3.SightStreet.Eye.High - r3.SightStreet.Eye.Low)) + 1))) (lbind (g_sight_Letters_l1 r3 c0_28 (Int.toNat ((IntKind.i64.wrap ((IntKind.i64.wrap (r3.SightStreet.Eye.High - r3.SightStreet.Eye.Low)) + 1)) - 0)) 0 true false r3.power) (fun r14 => cond (roomOk 8 (List.length (c0_9 ++ [r14]))) (g_sight_Letters_l0 r3 p0 (c0_28 + 1) (c0_9 ++ [r14])) none) (fun c13 => cond (c13.1) (cond (roomOk 8 (List.length (c0_9 ++ [3]))) (g_sight_Letters_l0 r3 p0 (c0_28 + 1) (c0_9 ++ [3])) none) (cond (c13.2.1) (cond (roomOk 8 (List.length (c0_9 ++ [2]))) (g_sight_Letters_l0 r3 p0 (c0_28 + 1) (c0_9 ++ [2])) none) (cond (roomOk 8 (List.length (c0_9 ++ [1]))) (g_sight_Letters_l0 r3 p0 (c0_28 + 1) (c0_9 ++ [1])) none))) (fun _ _ => none)) none
def g_sight_Letters (x0_s : GSightStreet) (x1_board : Int) (x2_from : GSightPlace) : Option ((List Int) × Int) := Option.bind (g_sight_isView x0_s x1_board x2_from) (fun r1 => cond (r1) (Option.bind (getI x0_s.Boards x1_board) (fun x2 => Option.bind (g_sight_atWorst x0_s x2 x2_from) (fun r3 => cond (lenOk r3.board.Letters) (lbind (g_sight_Letters_l0 r3 r3.board.Letters 0 ([] : List Int)) (fun r16 => some r16) (fun c15 => some (c15, 0)) (fun _ _ => none)) none))) (some (([] : List Int), 2)))
theorem g_sight_Letters_ok (x0_s : GSightStreet) (x1_board : Int) (x2_from : GSightPlace) (R : (List Int) × Int) (h : g_sight_Letters x0_s x1_board x2_from = some R) : VPure Tryz.prog G0 28 [.agg (cGSightStreet x0_s), .lit (.int .i64 x1_board), .agg (cGSightPlace x2_from)] (.tree (.tup [.sl (cellsL eI R.1) (List.length R.1) false, .lit (.int .i64 R.2)])) := by
 refine VPure.runR mixed Tryz.call28 Tryz.func28 rfl (by simp [Tryz.ntmps28]; kernel_rfl) ?_
 obtain ⟨KF, h, kF, kN⟩ := fun_intro h
 simp only [g_sight_Letters] at h
 cases o18 : (g_sight_isView x0_s x1_board x2_from) with
 | none =>
  simp only [o18, hs, reduceCtorEq] at h
  exact absurd h kN
 | some r17 =>
  simp only [o18, hs, reduceCtorEq] at h
  simp only [vz, tyf, nm, seval]
  refine ktree (args0 := [.agg (cGSightStreet x0_s), .lit (.int .i64 x1_board), .agg (cGSightPlace x2_from)]) (by first | (simp only [nrm, tynrm] <;> rfl) | rfl) (by simp only [tre, tytre, Bool.and_self]) (g_sight_isView_ok _ _ _ _ o18) ?_
  refine fin_cut (fun tm => tm 1 = .lit (.int .i64 x1_board) ∧ tm 3 = .ptr 0 0 ∧ tm 5 = .ptr 1 0 ∧ tm 14 = .lit (.bool r17) ∧ True) (by refine ⟨?_, ?_, ?_, ?_, trivial⟩ <;> first | (simp only [ua, nm, seval] <;> rfl) | rfl) ?_
  rintro tm ⟨e19, e20, e21, e22, _⟩
  cases d23 : (r17)
  ·simp only [d23, hs, reduceCtorEq] at h
   simp only [vz, tyf, e19, e20, e21, e22, d23, nm, seval]
   refine opd_ret (x := (.tup [.lit (.slice none 0 0), .lit (.int .i64 2)])) (by first | (simp only [Tryz.results28, resV, resL, resV1, tgt_ptr, tgt_tp, uw, cr, tyf, d23, nm, seval] <;> rfl) | rfl) ?_
   obtain rfl := kF _ h
   refine rr_tree ?_ ?_
   ·simp only [tre, tytre, Bool.and_self]
   ·first | (simp only [outV, uw, showV_ref, cr, tyf, nrm, tynrm, e19, e20, e21, e22, d23, nm, seval] <;> rfl) | rfl
  simp only [d23, hs, reduceCtorEq] at h
  simp only [vz, tyf, e19, e20, e21, e22, d23, nm, seval]
  refine cwp_drawTF (fun tm => tm 1 = .lit (.int .i64 x1_board) ∧ tm 3 = .ptr 0 0 ∧ tm 5 = .ptr 1 0 ∧ True) (by refine ⟨e19, e20, e21, trivial⟩ <;> first | (simp only [ua, e19, e20, e21, e22, d23, nm, seval] <;> rfl) | rfl) ?_
  rintro tm ⟨e24, e25, e26, _⟩
  cases o28 : (getI x0_s.Boards x1_board) with
  | none =>
   simp only [o28, hs, reduceCtorEq] at h
   exact absurd h kN
  | some x27 =>
   simp only [o28, hs, reduceCtorEq] at h
   cases o30 : (g_sight_atWorst x0_s x27 x2_from) with
   | none =>
    simp only [o30, hs, reduceCtorEq] at h
    exact absurd h kN
   | some r29 =>
    simp only [o30, hs, reduceCtorEq] at h
    simp only [vz, tyf, d23, e24, e25, e26, (ix24 o28), nm, seval]
    refine dktree (args0 := [.agg (cGSightStreet x0_s), .agg (cGSightBoard x27), .agg (cGSightPlace x2_from)]) (by first | (simp only [nrm, tynrm] <;> rfl) | rfl) (by simp only [tre, tytre, Bool.and_self]) (g_sight_atWorst_ok _ _ _ _ o30) ?_
    refine fin_cut (fun tm => tm 23 = .agg (cGsightview r29) ∧ True) (by refine ⟨?_, trivial⟩ <;> first | (simp only [ua, d23, e24, e25, e26, nm, seval] <;> rfl) | rfl) ?_
    rintro tm ⟨e31, _⟩
    simp only [vz, tyf, d23, (ix24 o28), e31, nm, seval]
    refine drawK_nil ⟨?_, ?_⟩
    ·simp only [traceR_cons, traceR_nil, hitK_quiet, hitK_nil, and_true, true_and]
     repeat' (first | exact trivial | refine And.intro ?_ ?_ | rw [hitK_quiet] | rw [hitK_cons] | exact Or.inl (by decide +kernel) | exact Or.inl (by dsimp only; decide +kernel) | (refine Or.inr ⟨?_, ?_⟩ <;> simp; done) | (refine Or.inr ⟨?_, ?_⟩ <;> simp <;> omega))
    cases g33 : (lenOk r29.board.Letters)
    ·simp only [g33, hs, reduceCtorEq] at h
     exact absurd h kN
    simp only [g33, hs, reduceCtorEq] at h
    simp only [vz, tyf, d23, (ix24 o28), e31, g33, nm, seval]
    obtain ⟨K32, h, kR32, kG32, kB32, kN32⟩ := lbind_intro h kN
    obtain ⟨f32, hf32, h⟩ := call3 h
    obtain ⟨I32, hI32⟩ : ∃ I : Nat → St → Prop, I = (fun m st => ∃ (p32 : List GSightLetter) (c32_28 : Int) (c32_9 : List Int) (y32_0 : VV), m = List.length p32 ∧ 0 ≤ c32_28 ∧ List.drop (Int.toNat c32_28) r29.board.Letters = p32 ∧ st.df = [] ∧ 25 ≤ st.nx ∧ st.H 17 = some (.cells (some 97) (cGsightview r29)) ∧ st.tm 8 = .ptr 17 0 ∧ st.tm 27 = .lit (.int .i64 (List.length r29.board.Letters : Int)) ∧ st.tm 9 = y32_0 ∧ st.tm 28 = .lit (.int .i64 c32_28) ∧ ((∃ (β : Nat) (el : Option TypeId), y32_0 = .ref β 0 (List.length c32_9) 1 (List.length c32_9) ∧ β < st.nx ∧ β ≠ 17 ∧ st.H β = some (.cells el (cellsL eI c32_9))) ∨ (y32_0 = .lit (.slice none 0 0) ∧ c32_9 = [])) ∧ K32 (f32 p32 c32_28 c32_9)) := ⟨_, rfl⟩
    refine loopK mixed (by kernel_rfl) I32 (List.length r29.board.Letters) (by rw [hI32]; refine ⟨r29.board.Letters, 0, ([] : List Int), .lit (.slice none 0 0), rfl, Int.le_refl _, rfl, rfl, (show 25 ≤ 25 by omega), ?_, ?_, ?_, ?_, ?_, Or.inr ⟨rfl, rfl⟩, h⟩ <;> first | (simp only [ua, d23, e31, nm, seval] <;> rfl) | rfl) ?_
    rintro m ⟨tm, H, nx32, df⟩ hinv
    rw [hI32] at hinv
    obtain ⟨p32, c32_28, c32_9, y32_0, rfl, hi32, hp32, hdf, hn32, H34, e35, e36, e37, e38, ow32_0, h⟩ := hinv
    simp only at hdf hn32 H34 e35 e36 e37 e38 ow32_0
    have n39 := base_ne0 (m := 25) (b := nx32) (by omega)
    subst hdf hf32
    rcases ow32_0 with ⟨b32_0, el32_0, rfl, lq41, lq42, H40⟩ | ⟨rfl, rfl⟩
    ·have q41 := own_lt lq41
     have q42 := ne_f lq42
     cases p32 with
     | nil =>
      have d43 : (decide (c32_28 < (List.length r29.board.Letters : Int))) = false := not_lt_of_drop hi32 hp32
      simp only [g_sight_Letters_l0, hs, reduceCtorEq] at h
      replace h := kG32 _ h
      try dsimp only at h
      try simp only [hs] at h
      simp only [vz, tyf, d23, (ix24 o28), g33, n39, e35, e36, e37, e38, H34, q41, H40, q42, d43, nm, seval]
      refine opd_ret (x := (.tup [.ref b32_0 0 (List.length c32_9) 1 (List.length c32_9), .lit (.int .i64 0)])) (by first | (simp only [Tryz.results28, resV, resL, resV1, tgt_ptr, tgt_tp, uw, cr, tyf, d23, (ix24 o28), g33, n39, H34, q41, H40, q42, d43, nm, seval] <;> rfl) | rfl) ?_
      obtain rfl := kF _ h
      refine rr_tree ?_ ?_
      ·simp only [tre, tytre, Bool.and_self]
      ·first | (simp only [outV, uw, showV_ref, cr, tyf, nrm, tynrm, d23, (ix24 o28), g33, n39, e35, e36, e37, e38, H34, q41, H40, q42, d43, nm, seval] <;> rfl) | rfl
     | cons e32 p32 =>
      have d44 : (decide (c32_28 < (List.length r29.board.Letters : Int))) = true := lt_of_drop hi32 hp32
      have o46 := getI_of_drop hi32 hp32
      have w45 := wrap_next hi32 hp32 g33
      simp only [g_sight_Letters_l0, hs, reduceCtorEq] at h
      simp only [vz, tyf, d23, (ix24 o28), g33, n39, e35, e36, e37, e38, H34, q41, H40, q42, d44, (ix40 o46), w45, nm, seval]
      refine kopen ?_
      rw [openK_eq]
      refine VOpen.run mixed Tryz.call68 Tryz.func68 rfl (by simp [Tryz.ntmps68]; kernel_rfl) ?_
      simp only [vz, tyf, d23, (ix24 o28), g33, n39, H34, q41, H40, q42, d44, (ix40 o46), w45, nm, seval]
      refine cwp_scope mixed (by kernel_rfl) ?_
      cases g48 : (boundOk (IntKind.i64.wrap ((IntKind.i64.wrap (r29.SightStreet.Eye.High - r29.SightStreet.Eye.Low)) + 1)))
      ·simp only [g48, hs, reduceCtorEq] at h
       exact absurd h kN32
      simp only [g48, hs, reduceCtorEq] at h
      simp only [vz, tyf, d23, (ix24 o28), g33, n39, H34, q41, H40, q42, d44, (ix40 o46), w45, g48, nm, seval]
      obtain ⟨K47, h, kR47, kG47, kB47, kN47⟩ := lbind_intro h kN32
      obtain ⟨f47, hf47, h⟩ := call5 h
      obtain ⟨I47, hI47⟩ : ∃ I : Nat → St → Prop, I = (fun m st => ∃ (p47 : Nat) (c47_20 : Int) (c47_5 : Bool) (c47_6 : Bool) (c47_o0 : Int), p47 = m ∧ loOk c47_20 = true ∧ Int.toNat ((IntKind.i64.wrap ((IntKind.i64.wrap (r29.SightStreet.Eye.High - r29.SightStreet.Eye.Low)) + 1)) - c47_20) = p47 ∧ st.df = [] ∧ nx32 + 26 ≤ st.nx ∧ st.H 17 = some (.cells (some 97) (cGsightview r29)) ∧ st.H b32_0 = some (.cells (el32_0) (cellsL eI c32_9)) ∧ st.H (nx32 + 2) = some (.cells (some 3) ([.lit (.int .i64 c32_28)])) ∧ st.H (nx32 + 11) = some (.cells (some 97) ((cGSightStreet r29.SightStreet) ++ (cGSightPlace r29.SightPlace) ++ (cGSightBoard r29.board) ++ [.lit (.int .i64 c47_o0)])) ∧ st.tm 1 = .fn (.func 69) [] [.ptr (nx32 + 2) 0] ∧ st.tm 2 = .ptr (nx32 + 11) 0 ∧ st.tm 19 = .lit (.int .i64 (IntKind.i64.wrap ((IntKind.i64.wrap (r29.SightStreet.Eye.High - r29.SightStreet.Eye.Low)) + 1))) ∧ st.tm 5 = .lit (.bool c47_5) ∧ st.tm 6 = .lit (.bool c47_6) ∧ st.tm 20 = .lit (.int .i64 c47_20) ∧ K47 (f47 p47 c47_20 c47_5 c47_6 c47_o0)) := ⟨_, rfl⟩
      refine loopK mixed (by kernel_rfl) I47 (Int.toNat ((IntKind.i64.wrap ((IntKind.i64.wrap (r29.SightStreet.Eye.High - r29.SightStreet.Eye.Low)) + 1)) - 0)) (by rw [hI47]; refine ⟨Int.toNat ((IntKind.i64.wrap ((IntKind.i64.wrap (r29.SightStreet.Eye.High - r29.SightStreet.Eye.Low)) + 1)) - 0), 0, true, false, r29.power, rfl, (by rfl), rfl, rfl, (show nx32 + 26 ≤ nx32 + 26 by omega), ?_, ?_, ?_, ?_, ?_, ?_, ?_, ?_, ?_, ?_, h⟩ <;> first | (simp only [ua, d23, n39, H34, q41, H40, q42, d44, w45, nm, seval] <;> rfl) | rfl) ?_
      rintro m ⟨tm, H, nx47, df⟩ hinv
      rw [hI47] at hinv
      obtain ⟨p47, c47_20, c47_5, c47_6, c47_o0, rfl, hi47, hp47, hdf, hn47, H49, H50, H51, H52, e53, e54, e55, e56, e57, e58, h⟩ := hinv
      simp only at hdf hn47 H49 H50 H51 H52 e53 e54 e55 e56 e57 e58
      have n59 := base_ne0 (m := 25) (b := nx47) (by omega)
      have n60 := base_ne (a := nx32) (m := 26) (b := nx47) (by omega)
      have n61 := own_lt (β := b32_0) (nx := nx47) (by omega)
      subst hdf hf47
      cases p47 with
      | zero =>
       have d62 : (decide (c47_20 < (IntKind.i64.wrap ((IntKind.i64.wrap (r29.SightStreet.Eye.High - r29.SightStreet.Eye.Low)) + 1)))) = false := cnt_not_lt hp47
       simp only [g_sight_Letters_l1, hs, reduceCtorEq] at h
       replace h := kG47 _ h
       try dsimp only at h
       try simp only [hs] at h
       cases d63 : (c47_5)
       ·simp only [d63, hs, reduceCtorEq] at h
        cases d64 : (c47_6)
        ·simp only [d64, hs, reduceCtorEq] at h
         have b65 := And.intro d23 (And.intro g33 (And.intro d44 (And.intro g48 (And.intro d62 (And.intro d63 d64)))))
         simp only [vz, tyf, b65, (ix24 o28), n39, q41, q42, (ix40 o46), w45, n59, n60, n61, e53, e54, e55, e56, e57, e58, H49, H50, H51, H52, nm, seval]
         refine opd_ret (x := (.lit (.int .i64 1))) (by first | (simp only [Tryz.results68, resV, resL, resV1, tgt_ptr, tgt_tp, uw, cr, tyf, b65, (ix24 o28), n39, q41, q42, (ix40 o46), w45, n59, n60, n61, H49, H50, H51, H52, nm, seval] <;> rfl) | rfl) ?_
         cases g66 : (roomOk 8 (List.length (c32_9 ++ [1])))
         ·simp only [g66, hs, reduceCtorEq] at h
          exact absurd h kN32
         simp only [g66, hs, reduceCtorEq] at h
         simp only [vz, tyf, b65, (ix24 o28), n39, q41, q42, (ix40 o46), w45, n59, n60, n61, H49, H50, H51, H52, e35, e36, e37, e38, g66, nm, seval]
         refine k_app (w := 1) (enc := eI) (xs := c32_9) (ys := ([1])) (el := el32_0) (el2 := (some 34)) (fun _ => rfl) lf54 ao54 Tryz.underlying54 (by first | rfl | assumption | (simp only [updH_apply, without_apply, et54, n39, q41, q42, n59, n60, n61, H49, H50, H51, H52, nm, seval] <;> rfl) | (simp only [updH_apply, without_apply, cellsL_cons, cellsL_nil, mV_app, mV_app0, tyf, b65, (ix24 o28), n39, q41, q42, (ix40 o46), w45, n59, n60, n61, H49, H50, H51, H52, e35, e36, e37, e38, g66, nm, seval]; done)) (by first | rfl | assumption | (simp only [updH_apply, without_apply, et54, n39, q41, q42, n59, n60, n61, H49, H50, H51, H52, nm, seval] <;> rfl) | (simp only [updH_apply, without_apply, cellsL_cons, cellsL_nil, mV_app, mV_app0, tyf, b65, (ix24 o28), n39, q41, q42, (ix40 o46), w45, n59, n60, n61, H49, H50, H51, H52, e35, e36, e37, e38, g66, nm, seval]; done)) (Nat.zero_lt_succ _) g66 ?_
         simp only [vz, tyf, b65, (ix24 o28), n39, q41, q42, (ix40 o46), w45, n59, n60, n61, H49, H50, H51, H52, e35, e36, e37, e38, g66, nm, seval]
         exact ⟨List.length p32, Nat.lt_succ_self _, by rw [hI32]; refine ⟨p32, c32_28 + 1, (c32_9 ++ [1]), .ref (nx32 + 9) 0 (List.length (c32_9 ++ [1])) 1 (List.length (c32_9 ++ [1])), rfl, Int.le_trans hi32 (Int.le_add_one (Int.le_refl _)), drop_next hi32 hp32, rfl, (show 25 ≤ nx47 + 8 by omega), ?_, e35, e36, ?_, ?_, Or.inl ⟨nx32 + 9, (sameEl el32_0 34), rfl, (by first | omega | (simp only [nm, seval]; omega)), (by first | omega | (intro hh; simp only [n39, q41, q42, n59, n60, n61, reduceCtorEq] at hh)), ?_⟩, h⟩ <;> first | (simp only [ua, b65, n39, q41, q42, w45, n59, n60, n61, H49, H50, H51, H52, e35, e36, e37, e38, nm, seval] <;> rfl) | rfl⟩
        simp only [d64, hs, reduceCtorEq] at h
        have b67 := And.intro d23 (And.intro g33 (And.intro d44 (And.intro g48 (And.intro d62 (And.intro d63 d64)))))
        simp only [vz, tyf, b67, (ix24 o28), n39, q41, q42, (ix40 o46), w45, n59, n60, n61, e53, e54, e55, e56, e57, e58, H49, H50, H51, H52, nm, seval]
        refine opd_ret (x := (.lit (.int .i64 2))) (by first | (simp only [Tryz.results68, resV, resL, resV1, tgt_ptr, tgt_tp, uw, cr, tyf, b67, (ix24 o28), n39, q41, q42, (ix40 o46), w45, n59, n60, n61, H49, H50, H51, H52, nm, seval] <;> rfl) | rfl) ?_
        cases g68 : (roomOk 8 (List.length (c32_9 ++ [2])))
        ·simp only [g68, hs, reduceCtorEq] at h
         exact absurd h kN32
        simp only [g68, hs, reduceCtorEq] at h
        simp only [vz, tyf, b67, (ix24 o28), n39, q41, q42, (ix40 o46), w45, n59, n60, n61, H49, H50, H51, H52, e35, e36, e37, e38, g68, nm, seval]
        refine k_app (w := 1) (enc := eI) (xs := c32_9) (ys := ([2])) (el := el32_0) (el2 := (some 34)) (fun _ => rfl) lf54 ao54 Tryz.underlying54 (by first | rfl | assumption | (simp only [updH_apply, without_apply, et54, n39, q41, q42, n59, n60, n61, H49, H50, H51, H52, nm, seval] <;> rfl) | (simp only [updH_apply, without_apply, cellsL_cons, cellsL_nil, mV_app, mV_app0, tyf, b67, (ix24 o28), n39, q41, q42, (ix40 o46), w45, n59, n60, n61, H49, H50, H51, H52, e35, e36, e37, e38, g68, nm, seval]; done)) (by first | rfl | assumption | (simp only [updH_apply, without_apply, et54, n39, q41, q42, n59, n60, n61, H49, H50, H51, H52, nm, seval] <;> rfl) | (simp only [updH_apply, without_apply, cellsL_cons, cellsL_nil, mV_app, mV_app0, tyf, b67, (ix24 o28), n39, q41, q42, (ix40 o46), w45, n59, n60, n61, H49, H50, H51, H52, e35, e36, e37, e38, g68, nm, seval]; done)) (Nat.zero_lt_succ _) g68 ?_
        simp only [vz, tyf, b67, (ix24 o28), n39, q41, q42, (ix40 o46), w45, n59, n60, n61, H49, H50, H51, H52, e35, e36, e37, e38, g68, nm, seval]
        exact ⟨List.length p32, Nat.lt_succ_self _, by rw [hI32]; refine ⟨p32, c32_28 + 1, (c32_9 ++ [2]), .ref (nx32 + 9) 0 (List.length (c32_9 ++ [2])) 1 (List.length (c32_9 ++ [2])), rfl, Int.le_trans hi32 (Int.le_add_one (Int.le_refl _)), drop_next hi32 hp32, rfl, (show 25 ≤ nx47 + 8 by omega), ?_, e35, e36, ?_, ?_, Or.inl ⟨nx32 + 9, (sameEl el32_0 34), rfl, (by first | omega | (simp only [nm, seval]; omega)), (by first | omega | (intro hh; simp only [n39, q41, q42, n59, n60, n61, reduceCtorEq] at hh)), ?_⟩, h⟩ <;> first | (simp only [ua, b67, n39, q41, q42, w45, n59, n60, n61, H49, H50, H51, H52, e35, e36, e37, e38, nm, seval] <;> rfl) | rfl⟩
       simp only [d63, hs, reduceCtorEq] at h
       simp only [vz, tyf, d23, (ix24 o28), g33, n39, q41, q42, d44, (ix40 o46), w45, g48, n59, n60, n61, e53, e54, e55, e56, e57, e58, H49, H50, H51, H52, d62, d63, nm, seval]
       refine opd_ret (x := (.lit (.int .i64 3))) (by first | (simp only [Tryz.results68, resV, resL, resV1, tgt_ptr, tgt_tp, uw, cr, tyf, d23, (ix24 o28), g33, n39, q41, q42, d44, (ix40 o46), w45, g48, n59, n60, n61, H49, H50, H51, H52, d62, d63, nm, seval] <;> rfl) | rfl) ?_
       cases g69 : (roomOk 8 (List.length (c32_9 ++ [3])))
       ·simp only [g69, hs, reduceCtorEq] at h
        exact absurd h kN32
       simp only [g69, hs, reduceCtorEq] at h
       simp only [vz, tyf, d23, (ix24 o28), g33, n39, q41, q42, d44, (ix40 o46), w45, g48, n59, n60, n61, H49, H50, H51, H52, d62, d63, e35, e36, e37, e38, g69, nm, seval]
       refine k_app (w := 1) (enc := eI) (xs := c32_9) (ys := ([3])) (el := el32_0) (el2 := (some 34)) (fun _ => rfl) lf54 ao54 Tryz.underlying54 (by first | rfl | assumption | (simp only [updH_apply, without_apply, et54, n39, q41, q42, n59, n60, n61, H49, H50, H51, H52, nm, seval] <;> rfl) | (simp only [updH_apply, without_apply, cellsL_cons, cellsL_nil, mV_app, mV_app0, tyf, d23, (ix24 o28), g33, n39, q41, q42, d44, (ix40 o46), w45, g48, n59, n60, n61, H49, H50, H51, H52, d62, d63, e35, e36, e37, e38, g69, nm, seval]; done)) (by first | rfl | assumption | (simp only [updH_apply, without_apply, et54, n39, q41, q42, n59, n60, n61, H49, H50, H51, H52, nm, seval] <;> rfl) | (simp only [updH_apply, without_apply, cellsL_cons, cellsL_nil, mV_app, mV_app0, tyf, d23, (ix24 o28), g33, n39, q41, q42, d44, (ix40 o46), w45, g48, n59, n60, n61, H49, H50, H51, H52, d62, d63, e35, e36, e37, e38, g69, nm, seval]; done)) (Nat.zero_lt_succ _) g69 ?_
       simp only [vz, tyf, d23, (ix24 o28), g33, n39, q41, q42, d44, (ix40 o46), w45, g48, n59, n60, n61, H49, H50, H51, H52, d62, d63, e35, e36, e37, e38, g69, nm, seval]
       exact ⟨List.length p32, Nat.lt_succ_self _, by rw [hI32]; refine ⟨p32, c32_28 + 1, (c32_9 ++ [3]), .ref (nx32 + 9) 0 (List.length (c32_9 ++ [3])) 1 (List.length (c32_9 ++ [3])), rfl, Int.le_trans hi32 (Int.le_add_one (Int.le_refl _)), drop_next hi32 hp32, rfl, (show 25 ≤ nx47 + 6 by omega), ?_, e35, e36, ?_, ?_, Or.inl ⟨nx32 + 9, (sameEl el32_0 34), rfl, (by first | omega | (simp only [nm, seval]; omega)), (by first | omega | (intro hh; simp only [n39, q41, q42, n59, n60, n61, reduceCtorEq] at hh)), ?_⟩, h⟩ <;> first | (simp only [ua, d23, n39, q41, q42, d44, w45, n59, n60, n61, H49, H50, H51, H52, d62, d63, e35, e36, e37, e38, nm, seval] <;> rfl) | rfl⟩
      | succ p47 =>
       have d70 : (decide (c47_20 < (IntKind.i64.wrap ((IntKind.i64.wrap (r29.SightStreet.Eye.High - r29.SightStreet.Eye.Low)) + 1)))) = true := cnt_lt hp47
       have w71 := cnt_wrap hi47 hp47 g48
       simp only [g_sight_Letters_l1, hs, reduceCtorEq] at h
       cases g73 : (boundOk (IntKind.i64.wrap ((IntKind.i64.wrap (r29.SightStreet.Light.High - r29.SightStreet.Light.Low)) + 1)))
       ·simp only [g73, hs, reduceCtorEq] at h
        exact absurd h kN47
       simp only [g73, hs, reduceCtorEq] at h
       simp only [vz, tyf, d23, (ix24 o28), g33, n39, q41, q42, d44, (ix40 o46), w45, g48, n59, n60, n61, e53, e54, e55, e56, e57, e58, H49, H50, H51, H52, d70, w71, g73, nm, seval]
       obtain ⟨K72, h, kR72, kG72, kB72, kN72⟩ := lbind_intro h kN47
       obtain ⟨f72, hf72, h⟩ := call5 h
       obtain ⟨I72, hI72⟩ : ∃ I : Nat → St → Prop, I = (fun m st => ∃ (p72 : Nat) (c72_33 : Int) (c72_5 : Bool) (c72_6 : Bool) (c72_o0 : Int), p72 = m ∧ loOk c72_33 = true ∧ Int.toNat ((IntKind.i64.wrap ((IntKind.i64.wrap (r29.SightStreet.Light.High - r29.SightStreet.Light.Low)) + 1)) - c72_33) = p72 ∧ st.df = [] ∧ nx47 + 14 ≤ st.nx ∧ st.H 17 = some (.cells (some 97) (cGsightview r29)) ∧ st.H b32_0 = some (.cells (el32_0) (cellsL eI c32_9)) ∧ st.H (nx32 + 2) = some (.cells (some 3) ([.lit (.int .i64 c32_28)])) ∧ st.H (nx32 + 11) = some (.cells (some 97) ((cGSightStreet r29.SightStreet) ++ (cGSightPlace r29.SightPlace) ++ (cGSightBoard r29.board) ++ [.lit (.int .i64 c72_o0)])) ∧ st.tm 1 = .fn (.func 69) [] [.ptr (nx32 + 2) 0] ∧ st.tm 2 = .ptr (nx32 + 11) 0 ∧ st.tm 7 = .lit (.int .i64 c47_20) ∧ st.tm 19 = .lit (.int .i64 (IntKind.i64.wrap ((IntKind.i64.wrap (r29.SightStreet.Eye.High - r29.SightStreet.Eye.Low)) + 1))) ∧ st.tm 20 = .lit (.int .i64 c47_20) ∧ st.tm 32 = .lit (.int .i64 (IntKind.i64.wrap ((IntKind.i64.wrap (r29.SightStreet.Light.High - r29.SightStreet.Light.Low)) + 1))) ∧ st.tm 5 = .lit (.bool c72_5) ∧ st.tm 6 = .lit (.bool c72_6) ∧ st.tm 33 = .lit (.int .i64 c72_33) ∧ K72 (f72 p72 c72_33 c72_5 c72_6 c72_o0)) := ⟨_, rfl⟩
       refine loopK mixed (by kernel_rfl) I72 (Int.toNat ((IntKind.i64.wrap ((IntKind.i64.wrap (r29.SightStreet.Light.High - r29.SightStreet.Light.Low)) + 1)) - 0)) (by rw [hI72]; refine ⟨Int.toNat ((IntKind.i64.wrap ((IntKind.i64.wrap (r29.SightStreet.Light.High - r29.SightStreet.Light.Low)) + 1)) - 0), 0, c47_5, c47_6, c47_o0, rfl, (by rfl), rfl, rfl, (show nx47 + 14 ≤ nx47 + 14 by omega), ?_, ?_, ?_, ?_, e53, e54, ?_, e55, e58, ?_, e56, e57, ?_, h⟩ <;> first | (simp only [ua, d23, n39, q41, q42, d44, w45, n59, n60, n61, e53, e54, e55, e56, e57, e58, H49, H50, H51, H52, d70, w71, nm, seval] <;> rfl) | rfl) ?_
       rintro m ⟨tm, H, nx72, df⟩ hinv
       rw [hI72] at hinv
       obtain ⟨p72, c72_33, c72_5, c72_6, c72_o0, rfl, hi72, hp72, hdf, hn72, H74, H75, H76, H77, e78, e79, e80, e81, e82, e83, e84, e85, e86, h⟩ := hinv
       simp only at hdf hn72 H74 H75 H76 H77 e78 e79 e80 e81 e82 e83 e84 e85 e86
       have n87 := base_ne0 (m := 25) (b := nx72) (by omega)
       have n88 := base_ne (a := nx32) (m := 26) (b := nx72) (by omega)
       have n89 := base_ne (a := nx47) (m := 14) (b := nx72) (by omega)
       have n90 := own_lt (β := b32_0) (nx := nx72) (by omega)
       subst hdf hf72
       cases p72 with
       | zero =>
        have d91 : (decide (c72_33 < (IntKind.i64.wrap ((IntKind.i64.wrap (r29.SightStreet.Light.High - r29.SightStreet.Light.Low)) + 1)))) = false := cnt_not_lt hp72
        simp only [g_sight_Letters_l2, hs, reduceCtorEq] at h
        replace h := kG72 _ h
        try dsimp only at h
        try simp only [hs] at h
        simp only [vz, tyf, d23, (ix24 o28), g33, n39, q41, q42, d44, (ix40 o46), w45, g48, n59, n60, n61, d70, w71, g73, n87, n88, n89, n90, e78, e79, e80, e81, e82, e83, e84, e85, e86, H74, H75, H76, H77, d91, nm, seval]
        exact ⟨p47, Nat.lt_succ_self _, by rw [hI47]; refine ⟨p47, c47_20 + 1, c72_5, c72_6, c72_o0, rfl, cnt_lo hi47, cnt_next hp47, rfl, (show nx32 + 26 ≤ nx72 + 3 by omega), ?_, ?_, ?_, ?_, e78, e79, e81, e84, e85, ?_, h⟩ <;> first | (simp only [ua, d23, n39, q41, q42, d44, w45, n59, n60, n61, d70, w71, n87, n88, n89, n90, e78, e79, e80, e81, e82, e83, e84, e85, e86, H74, H75, H76, H77, d91, nm, seval] <;> rfl) | rfl⟩
       | succ p72 =>
        have d92 : (decide (c72_33 < (IntKind.i64.wrap ((IntKind.i64.wrap (r29.SightStreet.Light.High - r29.SightStreet.Light.Low)) + 1)))) = true := cnt_lt hp72
        have w93 := cnt_wrap hi72 hp72 g73
        simp only [g_sight_Letters_l2, hs, reduceCtorEq] at h
        simp only [vz, tyf, d23, (ix24 o28), g33, n39, q41, q42, d44, (ix40 o46), w45, g48, n59, n60, n61, d70, w71, g73, n87, n88, n89, n90, e78, e79, e80, e81, e82, e83, e84, e85, e86, H74, H75, H76, H77, d92, w93, nm, seval]
        refine kopen ?_
        rw [openK_eq]
        refine VOpen.run mixed Tryz.call69 Tryz.func69 rfl (by simp [Tryz.ntmps69]; kernel_rfl) ?_
        cases o95 : (g_sight_view_isLegible (Gsightview.mk r29.SightStreet r29.SightPlace r29.board (IntKind.i64.wrap ((IntKind.i64.wrap (r29.SightStreet.Eye.Low + c47_20)) * (IntKind.i64.wrap (r29.SightStreet.Light.Low + c72_33))))) c32_28) with
        | none =>
         simp only [o95, hs, reduceCtorEq] at h
         exact absurd h kN72
        | some r94 =>
         simp only [o95, hs, reduceCtorEq] at h
         simp only [vz, tyf, d23, (ix24 o28), g33, n39, q41, q42, d44, (ix40 o46), w45, g48, n59, n60, n61, d70, w71, g73, n87, n88, n89, n90, H74, H75, H76, H77, d92, w93, nm, seval]
         refine ktree (args0 := [.agg (cGsightview (Gsightview.mk r29.SightStreet r29.SightPlace r29.board (IntKind.i64.wrap ((IntKind.i64.wrap (r29.SightStreet.Eye.Low + c47_20)) * (IntKind.i64.wrap (r29.SightStreet.Light.Low + c72_33)))))), .lit (.int .i64 c32_28)]) (by first | (simp only [nrm, tynrm] <;> rfl) | rfl) (by simp only [tre, tytre, Bool.and_self]) (g_sight_view_isLegible_ok _ _ _ o95) ?_
         refine fin_cut (fun tm => tm 6 = .lit (.bool r94) ∧ True) (by refine ⟨?_, trivial⟩ <;> first | (simp only [ua, d23, n39, q41, q42, d44, w45, n59, n60, n61, d70, w71, n87, n88, n89, n90, H74, H75, H76, H77, d92, w93, nm, seval] <;> rfl) | rfl) ?_
         rintro tm ⟨e96, _⟩
         have b97 := And.intro d23 (And.intro g33 (And.intro d44 (And.intro g48 (And.intro d70 (And.intro g73 d92)))))
         simp only [vz, tyf, b97, (ix24 o28), n39, q41, q42, (ix40 o46), w45, n59, n60, n61, w71, n87, n88, n89, n90, H74, H75, H76, H77, w93, e96, nm, seval]
         refine opd_ret (x := (.lit (.bool r94))) (by first | (simp only [Tryz.results69, resV, resL, resV1, tgt_ptr, tgt_tp, uw, cr, tyf, b97, (ix24 o28), n39, q41, q42, (ix40 o46), w45, n59, n60, n61, w71, n87, n88, n89, n90, H74, H75, H76, H77, w93, nm, seval] <;> rfl) | rfl) ?_
         cases d98 : (c72_5)
         ·simp only [d98, hs, reduceCtorEq] at h
          cases d99 : (c72_6)
          ·simp only [d99, hs, reduceCtorEq] at h
           cases d100 : (r94)
           ·simp only [d100, hs, reduceCtorEq] at h
            simp only [vz, tyf, b97, (ix24 o28), n39, q41, q42, (ix40 o46), w45, n59, n60, n61, w71, n87, n88, n89, n90, H74, H75, H76, H77, w93, e78, e79, e80, e81, e82, e83, e84, e85, e86, d98, d99, d100, nm, seval]
            exact ⟨p72, Nat.lt_succ_self _, by rw [hI72]; refine ⟨p72, c72_33 + 1, false, false, IntKind.i64.wrap ((IntKind.i64.wrap (r29.SightStreet.Eye.Low + c47_20)) * (IntKind.i64.wrap (r29.SightStreet.Light.Low + c72_33))), rfl, cnt_lo hi72, cnt_next hp72, rfl, (show nx47 + 14 ≤ nx72 + 45 by omega), ?_, ?_, ?_, ?_, e78, e79, e80, e81, e82, e83, ?_, ?_, ?_, h⟩ <;> first | (simp only [ua, b97, n39, q41, q42, w45, n59, n60, n61, w71, n87, n88, n89, n90, H74, H75, H76, H77, w93, e78, e79, e80, e81, e82, e83, e84, e85, e86, d98, d99, d100, nm, seval] <;> rfl) | rfl⟩
           simp only [d100, hs, reduceCtorEq] at h
           replace h := kB72 _ _ h
           try dsimp only at h
           try simp only [hs] at h
           replace h := kG47 _ h
           try dsimp only at h
           try simp only [hs] at h
           simp only [vz, tyf, b97, (ix24 o28), n39, q41, q42, (ix40 o46), w45, n59, n60, n61, w71, n87, n88, n89, n90, H74, H75, H76, H77, w93, e78, e79, e80, e81, e82, e83, e84, e85, e86, d98, d99, d100, nm, seval]
           refine opd_ret (x := (.lit (.int .i64 2))) (by first | (simp only [Tryz.results68, resV, resL, resV1, tgt_ptr, tgt_tp, uw, cr, tyf, b97, (ix24 o28), n39, q41, q42, (ix40 o46), w45, n59, n60, n61, w71, n87, n88, n89, n90, H74, H75, H76, H77, w93, d98, d99, d100, nm, seval] <;> rfl) | rfl) ?_
           cases g101 : (roomOk 8 (List.length (c32_9 ++ [2])))
           ·simp only [g101, hs, reduceCtorEq] at h
            exact absurd h kN32
           simp only [g101, hs, reduceCtorEq] at h
           simp only [vz, tyf, b97, (ix24 o28), n39, q41, q42, (ix40 o46), w45, n59, n60, n61, w71, n87, n88, n89, n90, H74, H75, H76, H77, w93, d98, d99, d100, e35, e36, e37, e38, g101, nm, seval]
           refine k_app (w := 1) (enc := eI) (xs := c32_9) (ys := ([2])) (el := el32_0) (el2 := (some 34)) (fun _ => rfl) lf54 ao54 Tryz.underlying54 (by first | rfl | assumption | (simp only [updH_apply, without_apply, et54, n39, q41, q42, n59, n60, n61, n87, n88, n89, n90, H74, H75, H76, H77, nm, seval] <;> rfl) | (simp only [updH_apply, without_apply, cellsL_cons, cellsL_nil, mV_app, mV_app0, tyf, b97, (ix24 o28), n39, q41, q42, (ix40 o46), w45, n59, n60, n61, w71, n87, n88, n89, n90, H74, H75, H76, H77, w93, d98, d99, d100, e35, e36, e37, e38, g101, nm, seval]; done)) (by first | rfl | assumption | (simp only [updH_apply, without_apply, et54, n39, q41, q42, n59, n60, n61, n87, n88, n89, n90, H74, H75, H76, H77, nm, seval] <;> rfl) | (simp only [updH_apply, without_apply, cellsL_cons, cellsL_nil, mV_app, mV_app0, tyf, b97, (ix24 o28), n39, q41, q42, (ix40 o46), w45, n59, n60, n61, w71, n87, n88, n89, n90, H74, H75, H76, H77, w93, d98, d99, d100, e35, e36, e37, e38, g101, nm, seval]; done)) (Nat.zero_lt_succ _) g101 ?_
           simp only [vz, tyf, b97, (ix24 o28), n39, q41, q42, (ix40 o46), w45, n59, n60, n61, w71, n87, n88, n89, n90, H74, H75, H76, H77, w93, d98, d99, d100, e35, e36, e37, e38, g101, nm, seval]
           exact ⟨List.length p32, Nat.lt_succ_self _, by rw [hI32]; refine ⟨p32, c32_28 + 1, (c32_9 ++ [2]), .ref (nx32 + 9) 0 (List.length (c32_9 ++ [2])) 1 (List.length (c32_9 ++ [2])), rfl, Int.le_trans hi32 (Int.le_add_one (Int.le_refl _)), drop_next hi32 hp32, rfl, (show 25 ≤ nx72 + 50 by omega), ?_, e35, e36, ?_, ?_, Or.inl ⟨nx32 + 9, (sameEl el32_0 34), rfl, (by first | omega | (simp only [nm, seval]; omega)), (by first | omega | (intro hh; simp only [n39, q41, q42, n59, n60, n61, n87, n88, n89, n90, reduceCtorEq] at hh)), ?_⟩, h⟩ <;> first | (simp only [ua, b97, n39, q41, q42, w45, n59, n60, n61, w71, n87, n88, n89, n90, H74, H75, H76, H77, w93, d98, d99, d100, e35, e36, e37, e38, nm, seval] <;> rfl) | rfl⟩
          simp only [d99, hs, reduceCtorEq] at h
          replace h := kB72 _ _ h
          try dsimp only at h
          try simp only [hs] at h
          replace h := kG47 _ h
          try dsimp only at h
          try simp only [hs] at h
          simp only [vz, tyf, b97, (ix24 o28), n39, q41, q42, (ix40 o46), w45, n59, n60, n61, w71, n87, n88, n89, n90, H74, H75, H76, H77, w93, e78, e79, e80, e81, e82, e83, e84, e85, e86, d98, d99, nm, seval]
          refine opd_ret (x := (.lit (.int .i64 2))) (by first | (simp only [Tryz.results68, resV, resL, resV1, tgt_ptr, tgt_tp, uw, cr, tyf, b97, (ix24 o28), n39, q41, q42, (ix40 o46), w45, n59, n60, n61, w71, n87, n88, n89, n90, H74, H75, H76, H77, w93, d98, d99, nm, seval] <;> rfl) | rfl) ?_
          cases g102 : (roomOk 8 (List.length (c32_9 ++ [2])))
          ·simp only [g102, hs, reduceCtorEq] at h
           exact absurd h kN32
          simp only [g102, hs, reduceCtorEq] at h
          simp only [vz, tyf, b97, (ix24 o28), n39, q41, q42, (ix40 o46), w45, n59, n60, n61, w71, n87, n88, n89, n90, H74, H75, H76, H77, w93, d98, d99, e35, e36, e37, e38, g102, nm, seval]
          refine k_app (w := 1) (enc := eI) (xs := c32_9) (ys := ([2])) (el := el32_0) (el2 := (some 34)) (fun _ => rfl) lf54 ao54 Tryz.underlying54 (by first | rfl | assumption | (simp only [updH_apply, without_apply, et54, n39, q41, q42, n59, n60, n61, n87, n88, n89, n90, H74, H75, H76, H77, nm, seval] <;> rfl) | (simp only [updH_apply, without_apply, cellsL_cons, cellsL_nil, mV_app, mV_app0, tyf, b97, (ix24 o28), n39, q41, q42, (ix40 o46), w45, n59, n60, n61, w71, n87, n88, n89, n90, H74, H75, H76, H77, w93, d98, d99, e35, e36, e37, e38, g102, nm, seval]; done)) (by first | rfl | assumption | (simp only [updH_apply, without_apply, et54, n39, q41, q42, n59, n60, n61, n87, n88, n89, n90, H74, H75, H76, H77, nm, seval] <;> rfl) | (simp only [updH_apply, without_apply, cellsL_cons, cellsL_nil, mV_app, mV_app0, tyf, b97, (ix24 o28), n39, q41, q42, (ix40 o46), w45, n59, n60, n61, w71, n87, n88, n89, n90, H74, H75, H76, H77, w93, d98, d99, e35, e36, e37, e38, g102, nm, seval]; done)) (Nat.zero_lt_succ _) g102 ?_
          simp only [vz, tyf, b97, (ix24 o28), n39, q41, q42, (ix40 o46), w45, n59, n60, n61, w71, n87, n88, n89, n90, H74, H75, H76, H77, w93, d98, d99, e35, e36, e37, e38, g102, nm, seval]
          exact ⟨List.length p32, Nat.lt_succ_self _, by rw [hI32]; refine ⟨p32, c32_28 + 1, (c32_9 ++ [2]), .ref (nx32 + 9) 0 (List.length (c32_9 ++ [2])) 1 (List.length (c32_9 ++ [2])), rfl, Int.le_trans hi32 (Int.le_add_one (Int.le_refl _)), drop_next hi32 hp32, rfl, (show 25 ≤ nx72 + 50 by omega), ?_, e35, e36, ?_, ?_, Or.inl ⟨nx32 + 9, (sameEl el32_0 34), rfl, (by first | omega | (simp only [nm, seval]; omega)), (by first | omega | (intro hh; simp only [n39, q41, q42, n59, n60, n61, n87, n88, n89, n90, reduceCtorEq] at hh)), ?_⟩, h⟩ <;> first | (simp only [ua, b97, n39, q41, q42, w45, n59, n60, n61, w71, n87, n88, n89, n90, H74, H75, H76, H77, w93, d98, d99, e35, e36, e37, e38, nm, seval] <;> rfl) | rfl⟩
         simp only [d98, hs, reduceCtorEq] at h
         cases d103 : (c72_6)
         ·simp only [d103, hs, reduceCtorEq] at h
          cases d104 : (r94)
          ·simp only [d104, hs, reduceCtorEq] at h
           simp only [vz, tyf, b97, (ix24 o28), n39, q41, q42, (ix40 o46), w45, n59, n60, n61, w71, n87, n88, n89, n90, H74, H75, H76, H77, w93, e78, e79, e80, e81, e82, e83, e84, e85, e86, d98, d103, d104, nm, seval]
           exact ⟨p72, Nat.lt_succ_self _, by rw [hI72]; refine ⟨p72, c72_33 + 1, false, false, IntKind.i64.wrap ((IntKind.i64.wrap (r29.SightStreet.Eye.Low + c47_20)) * (IntKind.i64.wrap (r29.SightStreet.Light.Low + c72_33))), rfl, cnt_lo hi72, cnt_next hp72, rfl, (show nx47 + 14 ≤ nx72 + 45 by omega), ?_, ?_, ?_, ?_, e78, e79, e80, e81, e82, e83, ?_, ?_, ?_, h⟩ <;> first | (simp only [ua, b97, n39, q41, q42, w45, n59, n60, n61, w71, n87, n88, n89, n90, H74, H75, H76, H77, w93, e78, e79, e80, e81, e82, e83, e84, e85, e86, d98, d103, d104, nm, seval] <;> rfl) | rfl⟩
          simp only [d104, hs, reduceCtorEq] at h
          simp only [vz, tyf, b97, (ix24 o28), n39, q41, q42, (ix40 o46), w45, n59, n60, n61, w71, n87, n88, n89, n90, H74, H75, H76, H77, w93, e78, e79, e80, e81, e82, e83, e84, e85, e86, d98, d103, d104, nm, seval]
          exact ⟨p72, Nat.lt_succ_self _, by rw [hI72]; refine ⟨p72, c72_33 + 1, true, true, IntKind.i64.wrap ((IntKind.i64.wrap (r29.SightStreet.Eye.Low + c47_20)) * (IntKind.i64.wrap (r29.SightStreet.Light.Low + c72_33))), rfl, cnt_lo hi72, cnt_next hp72, rfl, (show nx47 + 14 ≤ nx72 + 45 by omega), ?_, ?_, ?_, ?_, e78, e79, e80, e81, e82, e83, ?_, ?_, ?_, h⟩ <;> first | (simp only [ua, b97, n39, q41, q42, w45, n59, n60, n61, w71, n87, n88, n89, n90, H74, H75, H76, H77, w93, e78, e79, e80, e81, e82, e83, e84, e85, e86, d98, d103, d104, nm, seval] <;> rfl) | rfl⟩
         simp only [d103, hs, reduceCtorEq] at h
         cases d105 : (r94)
         ·simp only [d105, hs, reduceCtorEq] at h
          replace h := kB72 _ _ h
          try dsimp only at h
          try simp only [hs] at h
          replace h := kG47 _ h
          try dsimp only at h
          try simp only [hs] at h
          simp only [vz, tyf, b97, (ix24 o28), n39, q41, q42, (ix40 o46), w45, n59, n60, n61, w71, n87, n88, n89, n90, H74, H75, H76, H77, w93, e78, e79, e80, e81, e82, e83, e84, e85, e86, d98, d103, d105, nm, seval]
          refine opd_ret (x := (.lit (.int .i64 2))) (by first | (simp only [Tryz.results68, resV, resL, resV1, tgt_ptr, tgt_tp, uw, cr, tyf, b97, (ix24 o28), n39, q41, q42, (ix40 o46), w45, n59, n60, n61, w71, n87, n88, n89, n90, H74, H75, H76, H77, w93, d98, d103, d105, nm, seval] <;> rfl) | rfl) ?_
          cases g106 : (roomOk 8 (List.length (c32_9 ++ [2])))
          ·simp only [g106, hs, reduceCtorEq] at h
           exact absurd h kN32
          simp only [g106, hs, reduceCtorEq] at h
          simp only [vz, tyf, b97, (ix24 o28), n39, q41, q42, (ix40 o46), w45, n59, n60, n61, w71, n87, n88, n89, n90, H74, H75, H76, H77, w93, d98, d103, d105, e35, e36, e37, e38, g106, nm, seval]
          refine k_app (w := 1) (enc := eI) (xs := c32_9) (ys := ([2])) (el := el32_0) (el2 := (some 34)) (fun _ => rfl) lf54 ao54 Tryz.underlying54 (by first | rfl | assumption | (simp only [updH_apply, without_apply, et54, n39, q41, q42, n59, n60, n61, n87, n88, n89, n90, H74, H75, H76, H77, nm, seval] <;> rfl) | (simp only [updH_apply, without_apply, cellsL_cons, cellsL_nil, mV_app, mV_app0, tyf, b97, (ix24 o28), n39, q41, q42, (ix40 o46), w45, n59, n60, n61, w71, n87, n88, n89, n90, H74, H75, H76, H77, w93, d98, d103, d105, e35, e36, e37, e38, g106, nm, seval]; done)) (by first | rfl | assumption | (simp only [updH_apply, without_apply, et54, n39, q41, q42, n59, n60, n61, n87, n88, n89, n90, H74, H75, H76, H77, nm, seval] <;> rfl) | (simp only [updH_apply, without_apply, cellsL_cons, cellsL_nil, mV_app, mV_app0, tyf, b97, (ix24 o28), n39, q41, q42, (ix40 o46), w45, n59, n60, n61, w71, n87, n88, n89, n90, H74, H75, H76, H77, w93, d98, d103, d105, e35, e36, e37, e38, g106, nm, seval]; done)) (Nat.zero_lt_succ _) g106 ?_
          simp only [vz, tyf, b97, (ix24 o28), n39, q41, q42, (ix40 o46), w45, n59, n60, n61, w71, n87, n88, n89, n90, H74, H75, H76, H77, w93, d98, d103, d105, e35, e36, e37, e38, g106, nm, seval]
          exact ⟨List.length p32, Nat.lt_succ_self _, by rw [hI32]; refine ⟨p32, c32_28 + 1, (c32_9 ++ [2]), .ref (nx32 + 9) 0 (List.length (c32_9 ++ [2])) 1 (List.length (c32_9 ++ [2])), rfl, Int.le_trans hi32 (Int.le_add_one (Int.le_refl _)), drop_next hi32 hp32, rfl, (show 25 ≤ nx72 + 50 by omega), ?_, e35, e36, ?_, ?_, Or.inl ⟨nx32 + 9, (sameEl el32_0 34), rfl, (by first | omega | (simp only [nm, seval]; omega)), (by first | omega | (intro hh; simp only [n39, q41, q42, n59, n60, n61, n87, n88, n89, n90, reduceCtorEq] at hh)), ?_⟩, h⟩ <;> first | (simp only [ua, b97, n39, q41, q42, w45, n59, n60, n61, w71, n87, n88, n89, n90, H74, H75, H76, H77, w93, d98, d103, d105, e35, e36, e37, e38, nm, seval] <;> rfl) | rfl⟩
         simp only [d105, hs, reduceCtorEq] at h
         simp only [vz, tyf, b97, (ix24 o28), n39, q41, q42, (ix40 o46), w45, n59, n60, n61, w71, n87, n88, n89, n90, H74, H75, H76, H77, w93, e78, e79, e80, e81, e82, e83, e84, e85, e86, d98, d103, d105, nm, seval]
         exact ⟨p72, Nat.lt_succ_self _, by rw [hI72]; refine ⟨p72, c72_33 + 1, true, true, IntKind.i64.wrap ((IntKind.i64.wrap (r29.SightStreet.Eye.Low + c47_20)) * (IntKind.i64.wrap (r29.SightStreet.Light.Low + c72_33))), rfl, cnt_lo hi72, cnt_next hp72, rfl, (show nx47 + 14 ≤ nx72 + 45 by omega), ?_, ?_, ?_, ?_, e78, e79, e80, e81, e82, e83, ?_, ?_, ?_, h⟩ <;> first | (simp only [ua, b97, n39, q41, q42, w45, n59, n60, n61, w71, n87, n88, n89, n90, H74, H75, H76, H77, w93, e78, e79, e80, e81, e82, e83, e84, e85, e86, d98, d103, d105, nm, seval] <;> rfl) | rfl⟩
    ·cases p32 with
     | nil =>
      have d107 : (decide (c32_28 < (List.length r29.board.Letters : Int))) = false := not_lt_of_drop hi32 hp32
      simp only [g_sight_Letters_l0, hs, reduceCtorEq] at h
      replace h := kG32 _ h
      try dsimp only at h
      try simp only [hs] at h
      simp only [vz, tyf, d23, (ix24 o28), g33, n39, e35, e36, e37, e38, H34, d107, nm, seval]
      refine opd_ret (x := (.tup [.lit (.slice none 0 0), .lit (.int .i64 0)])) (by first | (simp only [Tryz.results28, resV, resL, resV1, tgt_ptr, tgt_tp, uw, cr, tyf, d23, (ix24 o28), g33, n39, H34, d107, nm, seval] <;> rfl) | rfl) ?_
      obtain rfl := kF _ h
      refine rr_tree ?_ ?_
      ·simp only [tre, tytre, Bool.and_self]
      ·first | (simp only [outV, uw, showV_ref, cr, tyf, nrm, tynrm, d23, (ix24 o28), g33, n39, e35, e36, e37, e38, H34, d107, nm, seval] <;> rfl) | rfl
     | cons e32 p32 =>
      have d108 : (decide (c32_28 < (List.length r29.board.Letters : Int))) = true := lt_of_drop hi32 hp32
      have o110 := getI_of_drop hi32 hp32
      have w109 := wrap_next hi32 hp32 g33
      simp only [g_sight_Letters_l0, hs, reduceCtorEq] at h
      simp only [vz, tyf, d23, (ix24 o28), g33, n39, e35, e36, e37, e38, H34, d108, (ix40 o110), w109, nm, seval]
      refine kopen ?_
      rw [openK_eq]
      refine VOpen.run mixed Tryz.call68 Tryz.func68 rfl (by simp [Tryz.ntmps68]; kernel_rfl) ?_
      simp only [vz, tyf, d23, (ix24 o28), g33, n39, H34, d108, (ix40 o110), w109, nm, seval]
      refine cwp_scope mixed (by kernel_rfl) ?_
      cases g112 : (boundOk (IntKind.i64.wrap ((IntKind.i64.wrap (r29.SightStreet.Eye.High - r29.SightStreet.Eye.Low)) + 1)))
      ·simp only [g112, hs, reduceCtorEq] at h
       exact absurd h kN32
      simp only [g112, hs, reduceCtorEq] at h
      simp only [vz, tyf, d23, (ix24 o28), g33, n39, H34, d108, (ix40 o110), w109, g112, nm, seval]
      obtain ⟨K111, h, kR111, kG111, kB111, kN111⟩ := lbind_intro h kN32
      obtain ⟨f111, hf111, h⟩ := call5 h
      obtain ⟨I111, hI111⟩ : ∃ I : Nat → St → Prop, I = (fun m st => ∃ (p111 : Nat) (c111_20 : Int) (c111_5 : Bool) (c111_6 : Bool) (c111_o0 : Int), p111 = m ∧ loOk c111_20 = true ∧ Int.toNat ((IntKind.i64.wrap ((IntKind.i64.wrap (r29.SightStreet.Eye.High - r29.SightStreet.Eye.Low)) + 1)) - c111_20) = p111 ∧ st.df = [] ∧ nx32 + 26 ≤ st.nx ∧ st.H 17 = some (.cells (some 97) (cGsightview r29)) ∧ st.H (nx32 + 2) = some (.cells (some 3) ([.lit (.int .i64 c32_28)])) ∧ st.H (nx32 + 11) = some (.cells (some 97) ((cGSightStreet r29.SightStreet) ++ (cGSightPlace r29.SightPlace) ++ (cGSightBoard r29.board) ++ [.lit (.int .i64 c111_o0)])) ∧ st.tm 1 = .fn (.func 69) [] [.ptr (nx32 + 2) 0] ∧ st.tm 2 = .ptr (nx32 + 11) 0 ∧ st.tm 19 = .lit (.int .i64 (IntKind.i64.wrap ((IntKind.i64.wrap (r29.SightStreet.Eye.High - r29.SightStreet.Eye.Low)) + 1))) ∧ st.tm 5 = .lit (.bool c111_5) ∧ st.tm 6 = .lit (.bool c111_6) ∧ st.tm 20 = .lit (.int .i64 c111_20) ∧ K111 (f111 p111 c111_20 c111_5 c111_6 c111_o0)) := ⟨_, rfl⟩
      refine loopK mixed (by kernel_rfl) I111 (Int.toNat ((IntKind.i64.wrap ((IntKind.i64.wrap (r29.SightStreet.Eye.High - r29.SightStreet.Eye.Low)) + 1)) - 0)) (by rw [hI111]; refine ⟨Int.toNat ((IntKind.i64.wrap ((IntKind.i64.wrap (r29.SightStreet.Eye.High - r29.SightStreet.Eye.Low)) + 1)) - 0), 0, true, false, r29.power, rfl, (by rfl), rfl, rfl, (show nx32 + 26 ≤ nx32 + 26 by omega), ?_, ?_, ?_, ?_, ?_, ?_, ?_, ?_, ?_, h⟩ <;> first | (simp only [ua, d23, n39, H34, d108, w109, nm, seval] <;> rfl) | rfl) ?_
      rintro m ⟨tm, H, nx111, df⟩ hinv
      rw [hI111] at hinv
      obtain ⟨p111, c111_20, c111_5, c111_6, c111_o0, rfl, hi111, hp111, hdf, hn111, H113, H114, H115, e116, e117, e118, e119, e120, e121, h⟩ := hinv
      simp only at hdf hn111 H113 H114 H115 e116 e117 e118 e119 e120 e121
      have n122 := base_ne0 (m := 25) (b := nx111) (by omega)
      have n123 := base_ne (a := nx32) (m := 26) (b := nx111) (by omega)
      subst hdf hf111
      cases p111 with
      | zero =>
       have d124 : (decide (c111_20 < (IntKind.i64.wrap ((IntKind.i64.wrap (r29.SightStreet.Eye.High - r29.SightStreet.Eye.Low)) + 1)))) = false := cnt_not_lt hp111
       simp only [g_sight_Letters_l1, hs, reduceCtorEq] at h
       replace h := kG111 _ h
       try dsimp only at h
       try simp only [hs] at h
       cases d125 : (c111_5)
       ·simp only [d125, hs, reduceCtorEq] at h
        cases d126 : (c111_6)
        ·simp only [d126, hs, reduceCtorEq] at h
         have b127 := And.intro d23 (And.intro g33 (And.intro d108 (And.intro g112 (And.intro d124 (And.intro d125 d126)))))
         simp only [vz, tyf, b127, (ix24 o28), n39, (ix40 o110), w109, n122, n123, e116, e117, e118, e119, e120, e121, H113, H114, H115, nm, seval]
         refine opd_ret (x := (.lit (.int .i64 1))) (by first | (simp only [Tryz.results68, resV, resL, resV1, tgt_ptr, tgt_tp, uw, cr, tyf, b127, (ix24 o28), n39, (ix40 o110), w109, n122, n123, H113, H114, H115, nm, seval] <;> rfl) | rfl) ?_
         cases g128 : (roomOk 8 (List.length (([] : List Int) ++ [1])))
         ·simp only [g128, hs, reduceCtorEq] at h
          exact absurd h kN32
         simp only [g128, hs, reduceCtorEq] at h
         simp only [vz, tyf, b127, (ix24 o28), n39, (ix40 o110), w109, n122, n123, H113, H114, H115, e35, e36, e37, e38, g128, nm, seval]
         refine k_appN (w := 1) (enc := eI) (ys := ([1])) (el2 := (some 34)) (fun _ => rfl) lf54 ao54 Tryz.underlying54 (by first | rfl | assumption | (simp only [updH_apply, without_apply, et54, n39, n122, n123, H113, H114, H115, nm, seval] <;> rfl) | (simp only [updH_apply, without_apply, cellsL_cons, cellsL_nil, mV_app, mV_app0, tyf, b127, (ix24 o28), n39, (ix40 o110), w109, n122, n123, H113, H114, H115, e35, e36, e37, e38, g128, nm, seval]; done)) (Nat.zero_lt_succ _) g128 ?_
         simp only [vz, tyf, b127, (ix24 o28), n39, (ix40 o110), w109, n122, n123, H113, H114, H115, e35, e36, e37, e38, g128, nm, seval]
         exact ⟨List.length p32, Nat.lt_succ_self _, by rw [hI32]; refine ⟨p32, c32_28 + 1, (([] : List Int) ++ [1]), .ref (nx32 + 9) 0 (List.length (([] : List Int) ++ [1])) 1 (List.length (([] : List Int) ++ [1])), rfl, Int.le_trans hi32 (Int.le_add_one (Int.le_refl _)), drop_next hi32 hp32, rfl, (show 25 ≤ nx111 + 8 by omega), ?_, e35, e36, ?_, ?_, Or.inl ⟨nx32 + 9, (some 34), rfl, (by first | omega | (simp only [nm, seval]; omega)), (by first | omega | (intro hh; simp only [n39, n122, n123, reduceCtorEq] at hh)), ?_⟩, h⟩ <;> first | (simp only [ua, b127, n39, w109, n122, n123, H113, H114, H115, e35, e36, e37, e38, nm, seval] <;> rfl) | rfl⟩
        simp only [d126, hs, reduceCtorEq] at h
        have b129 := And.intro d23 (And.intro g33 (And.intro d108 (And.intro g112 (And.intro d124 (And.intro d125 d126)))))
        simp only [vz, tyf, b129, (ix24 o28), n39, (ix40 o110), w109, n122, n123, e116, e117, e118, e119, e120, e121, H113, H114, H115, nm, seval]
        refine opd_ret (x := (.lit (.int .i64 2))) (by first | (simp only [Tryz.results68, resV, resL, resV1, tgt_ptr, tgt_tp, uw, cr, tyf, b129, (ix24 o28), n39, (ix40 o110), w109, n122, n123, H113, H114, H115, nm, seval] <;> rfl) | rfl) ?_
        cases g130 : (roomOk 8 (List.length (([] : List Int) ++ [2])))
        ·simp only [g130, hs, reduceCtorEq] at h
         exact absurd h kN32
        simp only [g130, hs, reduceCtorEq] at h
        simp only [vz, tyf, b129, (ix24 o28), n39, (ix40 o110), w109, n122, n123, H113, H114, H115, e35, e36, e37, e38, g130, nm, seval]
        refine k_appN (w := 1) (enc := eI) (ys := ([2])) (el2 := (some 34)) (fun _ => rfl) lf54 ao54 Tryz.underlying54 (by first | rfl | assumption | (simp only [updH_apply, without_apply, et54, n39, n122, n123, H113, H114, H115, nm, seval] <;> rfl) | (simp only [updH_apply, without_apply, cellsL_cons, cellsL_nil, mV_app, mV_app0, tyf, b129, (ix24 o28), n39, (ix40 o110), w109, n122, n123, H113, H114, H115, e35, e36, e37, e38, g130, nm, seval]; done)) (Nat.zero_lt_succ _) g130 ?_
        simp only [vz, tyf, b129, (ix24 o28), n39, (ix40 o110), w109, n122, n123, H113, H114, H115, e35, e36, e37, e38, g130, nm, seval]
        exact ⟨List.length p32, Nat.lt_succ_self _, by rw [hI32]; refine ⟨p32, c32_28 + 1, (([] : List Int) ++ [2]), .ref (nx32 + 9) 0 (List.length (([] : List Int) ++ [2])) 1 (List.length (([] : List Int) ++ [2])), rfl, Int.le_trans hi32 (Int.le_add_one (Int.le_refl _)), drop_next hi32 hp32, rfl, (show 25 ≤ nx111 + 8 by omega), ?_, e35, e36, ?_, ?_, Or.inl ⟨nx32 + 9, (some 34), rfl, (by first | omega | (simp only [nm, seval]; omega)), (by first | omega | (intro hh; simp only [n39, n122, n123, reduceCtorEq] at hh)), ?_⟩, h⟩ <;> first | (simp only [ua, b129, n39, w109, n122, n123, H113, H114, H115, e35, e36, e37, e38, nm, seval] <;> rfl) | rfl⟩
       simp only [d125, hs, reduceCtorEq] at h
       simp only [vz, tyf, d23, (ix24 o28), g33, n39, d108, (ix40 o110), w109, g112, n122, n123, e116, e117, e118, e119, e120, e121, H113, H114, H115, d124, d125, nm, seval]
       refine opd_ret (x := (.lit (.int .i64 3))) (by first | (simp only [Tryz.results68, resV, resL, resV1, tgt_ptr, tgt_tp, uw, cr, tyf, d23, (ix24 o28), g33, n39, d108, (ix40 o110), w109, g112, n122, n123, H113, H114, H115, d124, d125, nm, seval] <;> rfl) | rfl) ?_
       cases g131 : (roomOk 8 (List.length (([] : List Int) ++ [3])))
       ·simp only [g131, hs, reduceCtorEq] at h
        exact absurd h kN32
       simp only [g131, hs, reduceCtorEq] at h
       simp only [vz, tyf, d23, (ix24 o28), g33, n39, d108, (ix40 o110), w109, g112, n122, n123, H113, H114, H115, d124, d125, e35, e36, e37, e38, g131, nm, seval]
       refine k_appN (w := 1) (enc := eI) (ys := ([3])) (el2 := (some 34)) (fun _ => rfl) lf54 ao54 Tryz.underlying54 (by first | rfl | assumption | (simp only [updH_apply, without_apply, et54, n39, n122, n123, H113, H114, H115, nm, seval] <;> rfl) | (simp only [updH_apply, without_apply, cellsL_cons, cellsL_nil, mV_app, mV_app0, tyf, d23, (ix24 o28), g33, n39, d108, (ix40 o110), w109, g112, n122, n123, H113, H114, H115, d124, d125, e35, e36, e37, e38, g131, nm, seval]; done)) (Nat.zero_lt_succ _) g131 ?_
       simp only [vz, tyf, d23, (ix24 o28), g33, n39, d108, (ix40 o110), w109, g112, n122, n123, H113, H114, H115, d124, d125, e35, e36, e37, e38, g131, nm, seval]
       exact ⟨List.length p32, Nat.lt_succ_self _, by rw [hI32]; refine ⟨p32, c32_28 + 1, (([] : List Int) ++ [3]), .ref (nx32 + 9) 0 (List.length (([] : List Int) ++ [3])) 1 (List.length (([] : List Int) ++ [3])), rfl, Int.le_trans hi32 (Int.le_add_one (Int.le_refl _)), drop_next hi32 hp32, rfl, (show 25 ≤ nx111 + 6 by omega), ?_, e35, e36, ?_, ?_, Or.inl ⟨nx32 + 9, (some 34), rfl, (by first | omega | (simp only [nm, seval]; omega)), (by first | omega | (intro hh; simp only [n39, n122, n123, reduceCtorEq] at hh)), ?_⟩, h⟩ <;> first | (simp only [ua, d23, n39, d108, w109, n122, n123, H113, H114, H115, d124, d125, e35, e36, e37, e38, nm, seval] <;> rfl) | rfl⟩
      | succ p111 =>
       have d132 : (decide (c111_20 < (IntKind.i64.wrap ((IntKind.i64.wrap (r29.SightStreet.Eye.High - r29.SightStreet.Eye.Low)) + 1)))) = true := cnt_lt hp111
       have w133 := cnt_wrap hi111 hp111 g112
       simp only [g_sight_Letters_l1, hs, reduceCtorEq] at h
       cases g135 : (boundOk (IntKind.i64.wrap ((IntKind.i64.wrap (r29.SightStreet.Light.High - r29.SightStreet.Light.Low)) + 1)))
       ·simp only [g135, hs, reduceCtorEq] at h
        exact absurd h kN111
       simp only [g135, hs, reduceCtorEq] at h
       simp only [vz, tyf, d23, (ix24 o28), g33, n39, d108, (ix40 o110), w109, g112, n122, n123, e116, e117, e118, e119, e120, e121, H113, H114, H115, d132, w133, g135, nm, seval]
       obtain ⟨K134, h, kR134, kG134, kB134, kN134⟩ := lbind_intro h kN111
       obtain ⟨f134, hf134, h⟩ := call5 h
       obtain ⟨I134, hI134⟩ : ∃ I : Nat → St → Prop, I = (fun m st => ∃ (p134 : Nat) (c134_33 : Int) (c134_5 : Bool) (c134_6 : Bool) (c134_o0 : Int), p134 = m ∧ loOk c134_33 = true ∧ Int.toNat ((IntKind.i64.wrap ((IntKind.i64.wrap (r29.SightStreet.Light.High - r29.SightStreet.Light.Low)) + 1)) - c134_33) = p134 ∧ st.df = [] ∧ nx111 + 14 ≤ st.nx ∧ st.H 17 = some (.cells (some 97) (cGsightview r29)) ∧ st.H (nx32 + 2) = some (.cells (some 3) ([.lit (.int .i64 c32_28)])) ∧ st.H (nx32 + 11) = some (.cells (some 97) ((cGSightStreet r29.SightStreet) ++ (cGSightPlace r29.SightPlace) ++ (cGSightBoard r29.board) ++ [.lit (.int .i64 c134_o0)])) ∧ st.tm 1 = .fn (.func 69) [] [.ptr (nx32 + 2) 0] ∧ st.tm 2 = .ptr (nx32 + 11) 0 ∧ st.tm 7 = .lit (.int .i64 c111_20) ∧ st.tm 19 = .lit (.int .i64 (IntKind.i64.wrap ((IntKind.i64.wrap (r29.SightStreet.Eye.High - r29.SightStreet.Eye.Low)) + 1))) ∧ st.tm 20 = .lit (.int .i64 c111_20) ∧ st.tm 32 = .lit (.int .i64 (IntKind.i64.wrap ((IntKind.i64.wrap (r29.SightStreet.Light.High - r29.SightStreet.Light.Low)) + 1))) ∧ st.tm 5 = .lit (.bool c134_5) ∧ st.tm 6 = .lit (.bool c134_6) ∧ st.tm 33 = .lit (.int .i64 c134_33) ∧ K134 (f134 p134 c134_33 c134_5 c134_6 c134_o0)) := ⟨_, rfl⟩
       refine loopK mixed (by kernel_rfl) I134 (Int.toNat ((IntKind.i64.wrap ((IntKind.i64.wrap (r29.SightStreet.Light.High - r29.SightStreet.Light.Low)) + 1)) - 0)) (by rw [hI134]; refine ⟨Int.toNat ((IntKind.i64.wrap ((IntKind.i64.wrap (r29.SightStreet.Light.High - r29.SightStreet.Light.Low)) + 1)) - 0), 0, c111_5, c111_6, c111_o0, rfl, (by rfl), rfl, rfl, (show nx111 + 14 ≤ nx111 + 14 by omega), ?_, ?_, ?_, e116, e117, ?_, e118, e121, ?_, e119, e120, ?_, h⟩ <;> first | (simp only [ua, d23, n39, d108, w109, n122, n123, e116, e117, e118, e119, e120, e121, H113, H114, H115, d132, w133, nm, seval] <;> rfl) | rfl) ?_
       rintro m ⟨tm, H, nx134, df⟩ hinv
       rw [hI134] at hinv
       obtain ⟨p134, c134_33, c134_5, c134_6, c134_o0, rfl, hi134, hp134, hdf, hn134, H136, H137, H138, e139, e140, e141, e142, e143, e144, e145, e146, e147, h⟩ := hinv
       simp only at hdf hn134 H136 H137 H138 e139 e140 e141 e142 e143 e144 e145 e146 e147
       have n148 := base_ne0 (m := 25) (b := nx134) (by omega)
       have n149 := base_ne (a := nx32) (m := 26) (b := nx134) (by omega)
       have n150 := base_ne (a := nx111) (m := 14) (b := nx134) (by omega)
       subst hdf hf134
       cases p134 with
       | zero =>
        have d151 : (decide (c134_33 < (IntKind.i64.wrap ((IntKind.i64.wrap (r29.SightStreet.Light.High - r29.SightStreet.Light.Low)) + 1)))) = false := cnt_not_lt hp134
        simp only [g_sight_Letters_l2, hs, reduceCtorEq] at h
        replace h := kG134 _ h
        try dsimp only at h
        try simp only [hs] at h
        simp only [vz, tyf, d23, (ix24 o28), g33, n39, d108, (ix40 o110), w109, g112, n122, n123, d132, w133, g135, n148, n149, n150, e139, e140, e141, e142, e143, e144, e145, e146, e147, H136, H137, H138, d151, nm, seval]
        exact ⟨p111, Nat.lt_succ_self _, by rw [hI111]; refine ⟨p111, c111_20 + 1, c134_5, c134_6, c134_o0, rfl, cnt_lo hi111, cnt_next hp111, rfl, (show nx32 + 26 ≤ nx134 + 3 by omega), ?_, ?_, ?_, e139, e140, e142, e145, e146, ?_, h⟩ <;> first | (simp only [ua, d23, n39, d108, w109, n122, n123, d132, w133, n148, n149, n150, e139, e140, e141, e142, e143, e144, e145, e146, e147, H136, H137, H138, d151, nm, seval] <;> rfl) | rfl⟩
       | succ p134 =>
        have d152 : (decide (c134_33 < (IntKind.i64.wrap ((IntKind.i64.wrap (r29.SightStreet.Light.High - r29.SightStreet.Light.Low)) + 1)))) = true := cnt_lt hp134
        have w153 := cnt_wrap hi134 hp134 g135
        simp only [g_sight_Letters_l2, hs, reduceCtorEq] at h
        simp only [vz, tyf, d23, (ix24 o28), g33, n39, d108, (ix40 o110), w109, g112, n122, n123, d132, w133, g135, n148, n149, n150, e139, e140, e141, e142, e143, e144, e145, e146, e147, H136, H137, H138, d152, w153, nm, seval]
        refine kopen ?_
        rw [openK_eq]
        refine VOpen.run mixed Tryz.call69 Tryz.func69 rfl (by simp [Tryz.ntmps69]; kernel_rfl) ?_
        cases o155 : (g_sight_view_isLegible (Gsightview.mk r29.SightStreet r29.SightPlace r29.board (IntKind.i64.wrap ((IntKind.i64.wrap (r29.SightStreet.Eye.Low + c111_20)) * (IntKind.i64.wrap (r29.SightStreet.Light.Low + c134_33))))) c32_28) with
        | none =>
         simp only [o155, hs, reduceCtorEq] at h
         exact absurd h kN134
        | some r154 =>
         simp only [o155, hs, reduceCtorEq] at h
         simp only [vz, tyf, d23, (ix24 o28), g33, n39, d108, (ix40 o110), w109, g112, n122, n123, d132, w133, g135, n148, n149, n150, H136, H137, H138, d152, w153, nm, seval]
         refine ktree (args0 := [.agg (cGsightview (Gsightview.mk r29.SightStreet r29.SightPlace r29.board (IntKind.i64.wrap ((IntKind.i64.wrap (r29.SightStreet.Eye.Low + c111_20)) * (IntKind.i64.wrap (r29.SightStreet.Light.Low + c134_33)))))), .lit (.int .i64 c32_28)]) (by first | (simp only [nrm, tynrm] <;> rfl) | rfl) (by simp only [tre, tytre, Bool.and_self]) (g_sight_view_isLegible_ok _ _ _ o155) ?_
         refine fin_cut (fun tm => tm 6 = .lit (.bool r154) ∧ True) (by refine ⟨?_, trivial⟩ <;> first | (simp only [ua, d23, n39, d108, w109, n122, n123, d132, w133, n148, n149, n150, H136, H137, H138, d152, w153, nm, seval] <;> rfl) | rfl) ?_
         rintro tm ⟨e156, _⟩
         have b157 := And.intro d23 (And.intro g33 (And.intro d108 (And.intro g112 (And.intro d132 (And.intro g135 d152)))))
         simp only [vz, tyf, b157, (ix24 o28), n39, (ix40 o110), w109, n122, n123, w133, n148, n149, n150, H136, H137, H138, w153, e156, nm, seval]
         refine opd_ret (x := (.lit (.bool r154))) (by first | (simp only [Tryz.results69, resV, resL, resV1, tgt_ptr, tgt_tp, uw, cr, tyf, b157, (ix24 o28), n39, (ix40 o110), w109, n122, n123, w133, n148, n149, n150, H136, H137, H138, w153, nm, seval] <;> rfl) | rfl) ?_
         cases d158 : (c134_5)
         ·simp only [d158, hs, reduceCtorEq] at h
          cases d159 : (c134_6)
          ·simp only [d159, hs, reduceCtorEq] at h
           cases d160 : (r154)
           ·simp only [d160, hs, reduceCtorEq] at h
            simp only [vz, tyf, b157, (ix24 o28), n39, (ix40 o110), w109, n122, n123, w133, n148, n149, n150, H136, H137, H138, w153, e139, e140, e141, e142, e143, e144, e145, e146, e147, d158, d159, d160, nm, seval]
            exact ⟨p134, Nat.lt_succ_self _, by rw [hI134]; refine ⟨p134, c134_33 + 1, false, false, IntKind.i64.wrap ((IntKind.i64.wrap (r29.SightStreet.Eye.Low + c111_20)) * (IntKind.i64.wrap (r29.SightStreet.Light.Low + c134_33))), rfl, cnt_lo hi134, cnt_next hp134, rfl, (show nx111 + 14 ≤ nx134 + 45 by omega), ?_, ?_, ?_, e139, e140, e141, e142, e143, e144, ?_, ?_, ?_, h⟩ <;> first | (simp only [ua, b157, n39, w109, n122, n123, w133, n148, n149, n150, H136, H137, H138, w153, e139, e140, e141, e142, e143, e144, e145, e146, e147, d158, d159, d160, nm, seval] <;> rfl) | rfl⟩
           simp only [d160, hs, reduceCtorEq] at h
           replace h := kB134 _ _ h
           try dsimp only at h
           try simp only [hs] at h
           replace h := kG111 _ h
           try dsimp only at h
           try simp only [hs] at h
           simp only [vz, tyf, b157, (ix24 o28), n39, (ix40 o110), w109, n122, n123, w133, n148, n149, n150, H136, H137, H138, w153, e139, e140, e141, e142, e143, e144, e145, e146, e147, d158, d159, d160, nm, seval]
           refine opd_ret (x := (.lit (.int .i64 2))) (by first | (simp only [Tryz.results68, resV, resL, resV1, tgt_ptr, tgt_tp, uw, cr, tyf, b157, (ix24 o28), n39, (ix40 o110), w109, n122, n123, w133, n148, n149, n150, H136, H137, H138, w153, d158, d159, d160, nm, seval] <;> rfl) | rfl) ?_
           cases g161 : (roomOk 8 (List.length (([] : List Int) ++ [2])))
           ·simp only [g161, hs, reduceCtorEq] at h
            exact absurd h kN32
           simp only [g161, hs, reduceCtorEq] at h
           simp only [vz, tyf, b157, (ix24 o28), n39, (ix40 o110), w109, n122, n123, w133, n148, n149, n150, H136, H137, H138, w153, d158, d159, d160, e35, e36, e37, e38, g161, nm, seval]
           refine k_appN (w := 1) (enc := eI) (ys := ([2])) (el2 := (some 34)) (fun _ => rfl) lf54 ao54 Tryz.underlying54 (by first | rfl | assumption | (simp only [updH_apply, without_apply, et54, n39, n122, n123, n148, n149, n150, H136, H137, H138, nm, seval] <;> rfl) | (simp only [updH_apply, without_apply, cellsL_cons, cellsL_nil, mV_app, mV_app0, tyf, b157, (ix24 o28), n39, (ix40 o110), w109, n122, n123, w133, n148, n149, n150, H136, H137, H138, w153, d158, d159, d160, e35, e36, e37, e38, g161, nm, seval]; done)) (Nat.zero_lt_succ _) g161 ?_
           simp only [vz, tyf, b157, (ix24 o28), n39, (ix40 o110), w109, n122, n123, w133, n148, n149, n150, H136, H137, H138, w153, d158, d159, d160, e35, e36, e37, e38, g161, nm, seval]
           exact ⟨List.length p32, Nat.lt_succ_self _, by rw [hI32]; refine ⟨p32, c32_28 + 1, (([] : List Int) ++ [2]), .ref (nx32 + 9) 0 (List.length (([] : List Int) ++ [2])) 1 (List.length (([] : List Int) ++ [2])), rfl, Int.le_trans hi32 (Int.le_add_one (Int.le_refl _)), drop_next hi32 hp32, rfl, (show 25 ≤ nx134 + 50 by omega), ?_, e35, e36, ?_, ?_, Or.inl ⟨nx32 + 9, (some 34), rfl, (by first | omega | (simp only [nm, seval]; omega)), (by first | omega | (intro hh; simp only [n39, n122, n123, n148, n149, n150, reduceCtorEq] at hh)), ?_⟩, h⟩ <;> first | (simp only [ua, b157, n39, w109, n122, n123, w133, n148, n149, n150, H136, H137, H138, w153, d158, d159, d160, e35, e36, e37, e38, nm, seval] <;> rfl) | rfl⟩
          simp only [d159, hs, reduceCtorEq] at h
          replace h := kB134 _ _ h
          try dsimp only at h
          try simp only [hs] at h
          replace h := kG111 _ h
          try dsimp only at h
          try simp only [hs] at h
          simp only [vz, tyf, b157, (ix24 o28), n39, (ix40 o110), w109, n122, n123, w133, n148, n149, n150, H136, H137, H138, w153, e139, e140, e141, e142, e143, e144, e145, e146, e147, d158, d159, nm, seval]
          refine opd_ret (x := (.lit (.int .i64 2))) (by first | (simp only [Tryz.results68, resV, resL, resV1, tgt_ptr, tgt_tp, uw, cr, tyf, b157, (ix24 o28), n39, (ix40 o110), w109, n122, n123, w133, n148, n149, n150, H136, H137, H138, w153, d158, d159, nm, seval] <;> rfl) | rfl) ?_
          cases g162 : (roomOk 8 (List.length (([] : List Int) ++ [2])))
          ·simp only [g162, hs, reduceCtorEq] at h
           exact absurd h kN32
          simp only [g162, hs, reduceCtorEq] at h
          simp only [vz, tyf, b157, (ix24 o28), n39, (ix40 o110), w109, n122, n123, w133, n148, n149, n150, H136, H137, H138, w153, d158, d159, e35, e36, e37, e38, g162, nm, seval]
          refine k_appN (w := 1) (enc := eI) (ys := ([2])) (el2 := (some 34)) (fun _ => rfl) lf54 ao54 Tryz.underlying54 (by first | rfl | assumption | (simp only [updH_apply, without_apply, et54, n39, n122, n123, n148, n149, n150, H136, H137, H138, nm, seval] <;> rfl) | (simp only [updH_apply, without_apply, cellsL_cons, cellsL_nil, mV_app, mV_app0, tyf, b157, (ix24 o28), n39, (ix40 o110), w109, n122, n123, w133, n148, n149, n150, H136, H137, H138, w153, d158, d159, e35, e36, e37, e38, g162, nm, seval]; done)) (Nat.zero_lt_succ _) g162 ?_
          simp only [vz, tyf, b157, (ix24 o28), n39, (ix40 o110), w109, n122, n123, w133, n148, n149, n150, H136, H137, H138, w153, d158, d159, e35, e36, e37, e38, g162, nm, seval]
          exact ⟨List.length p32, Nat.lt_succ_self _, by rw [hI32]; refine ⟨p32, c32_28 + 1, (([] : List Int) ++ [2]), .ref (nx32 + 9) 0 (List.length (([] : List Int) ++ [2])) 1 (List.length (([] : List Int) ++ [2])), rfl, Int.le_trans hi32 (Int.le_add_one (Int.le_refl _)), drop_next hi32 hp32, rfl, (show 25 ≤ nx134 + 50 by omega), ?_, e35, e36, ?_, ?_, Or.inl ⟨nx32 + 9, (some 34), rfl, (by first | omega | (simp only [nm, seval]; omega)), (by first | omega | (intro hh; simp only [n39, n122, n123, n148, n149, n150, reduceCtorEq] at hh)), ?_⟩, h⟩ <;> first | (simp only [ua, b157, n39, w109, n122, n123, w133, n148, n149, n150, H136, H137, H138, w153, d158, d159, e35, e36, e37, e38, nm, seval] <;> rfl) | rfl⟩
         simp only [d158, hs, reduceCtorEq] at h
         cases d163 : (c134_6)
         ·simp only [d163, hs, reduceCtorEq] at h
          cases d164 : (r154)
          ·simp only [d164, hs, reduceCtorEq] at h
           simp only [vz, tyf, b157, (ix24 o28), n39, (ix40 o110), w109, n122, n123, w133, n148, n149, n150, H136, H137, H138, w153, e139, e140, e141, e142, e143, e144, e145, e146, e147, d158, d163, d164, nm, seval]
           exact ⟨p134, Nat.lt_succ_self _, by rw [hI134]; refine ⟨p134, c134_33 + 1, false, false, IntKind.i64.wrap ((IntKind.i64.wrap (r29.SightStreet.Eye.Low + c111_20)) * (IntKind.i64.wrap (r29.SightStreet.Light.Low + c134_33))), rfl, cnt_lo hi134, cnt_next hp134, rfl, (show nx111 + 14 ≤ nx134 + 45 by omega), ?_, ?_, ?_, e139, e140, e141, e142, e143, e144, ?_, ?_, ?_, h⟩ <;> first | (simp only [ua, b157, n39, w109, n122, n123, w133, n148, n149, n150, H136, H137, H138, w153, e139, e140, e141, e142, e143, e144, e145, e146, e147, d158, d163, d164, nm, seval] <;> rfl) | rfl⟩
          simp only [d164, hs, reduceCtorEq] at h
          simp only [vz, tyf, b157, (ix24 o28), n39, (ix40 o110), w109, n122, n123, w133, n148, n149, n150, H136, H137, H138, w153, e139, e140, e141, e142, e143, e144, e145, e146, e147, d158, d163, d164, nm, seval]
          exact ⟨p134, Nat.lt_succ_self _, by rw [hI134]; refine ⟨p134, c134_33 + 1, true, true, IntKind.i64.wrap ((IntKind.i64.wrap (r29.SightStreet.Eye.Low + c111_20)) * (IntKind.i64.wrap (r29.SightStreet.Light.Low + c134_33))), rfl, cnt_lo hi134, cnt_next hp134, rfl, (show nx111 + 14 ≤ nx134 + 45 by omega), ?_, ?_, ?_, e139, e140, e141, e142, e143, e144, ?_, ?_, ?_, h⟩ <;> first | (simp only [ua, b157, n39, w109, n122, n123, w133, n148, n149, n150, H136, H137, H138, w153, e139, e140, e141, e142, e143, e144, e145, e146, e147, d158, d163, d164, nm, seval] <;> rfl) | rfl⟩
         simp only [d163, hs, reduceCtorEq] at h
         cases d165 : (r154)
         ·simp only [d165, hs, reduceCtorEq] at h
          replace h := kB134 _ _ h
          try dsimp only at h
          try simp only [hs] at h
          replace h := kG111 _ h
          try dsimp only at h
          try simp only [hs] at h
          simp only [vz, tyf, b157, (ix24 o28), n39, (ix40 o110), w109, n122, n123, w133, n148, n149, n150, H136, H137, H138, w153, e139, e140, e141, e142, e143, e144, e145, e146, e147, d158, d163, d165, nm, seval]
          refine opd_ret (x := (.lit (.int .i64 2))) (by first | (simp only [Tryz.results68, resV, resL, resV1, tgt_ptr, tgt_tp, uw, cr, tyf, b157, (ix24 o28), n39, (ix40 o110), w109, n122, n123, w133, n148, n149, n150, H136, H137, H138, w153, d158, d163, d165, nm, seval] <;> rfl) | rfl) ?_
          cases g166 : (roomOk 8 (List.length (([] : List Int) ++ [2])))
          ·simp only [g166, hs, reduceCtorEq] at h
           exact absurd h kN32
          simp only [g166, hs, reduceCtorEq] at h
          simp only [vz, tyf, b157, (ix24 o28), n39, (ix40 o110), w109, n122, n123, w133, n148, n149, n150, H136, H137, H138, w153, d158, d163, d165, e35, e36, e37, e38, g166, nm, seval]
          refine k_appN (w := 1) (enc := eI) (ys := ([2])) (el2 := (some 34)) (fun _ => rfl) lf54 ao54 Tryz.underlying54 (by first | rfl | assumption | (simp only [updH_apply, without_apply, et54, n39, n122, n123, n148, n149, n150, H136, H137, H138, nm, seval] <;> rfl) | (simp only [updH_apply, without_apply, cellsL_cons, cellsL_nil, mV_app, mV_app0, tyf, b157, (ix24 o28), n39, (ix40 o110), w109, n122, n123, w133, n148, n149, n150, H136, H137, H138, w153, d158, d163, d165, e35, e36, e37, e38, g166, nm, seval]; done)) (Nat.zero_lt_succ _) g166 ?_
          simp only [vz, tyf, b157, (ix24 o28), n39, (ix40 o110), w109, n122, n123, w133, n148, n149, n150, H136, H137, H138, w153, d158, d163, d165, e35, e36, e37, e38, g166, nm, seval]
          exact ⟨List.length p32, Nat.lt_succ_self _, by rw [hI32]; refine ⟨p32, c32_28 + 1, (([] : List Int) ++ [2]), .ref (nx32 + 9) 0 (List.length (([] : List Int) ++ [2])) 1 (List.length (([] : List Int) ++ [2])), rfl, Int.le_trans hi32 (Int.le_add_one (Int.le_refl _)), drop_next hi32 hp32, rfl, (show 25 ≤ nx134 + 50 by omega), ?_, e35, e36, ?_, ?_, Or.inl ⟨nx32 + 9, (some 34), rfl, (by first | omega | (simp only [nm, seval]; omega)), (by first | omega | (intro hh; simp only [n39, n122, n123, n148, n149, n150, reduceCtorEq] at hh)), ?_⟩, h⟩ <;> first | (simp only [ua, b157, n39, w109, n122, n123, w133, n148, n149, n150, H136, H137, H138, w153, d158, d163, d165, e35, e36, e37, e38, nm, seval] <;> rfl) | rfl⟩
         simp only [d165, hs, reduceCtorEq] at h
         simp only [vz, tyf, b157, (ix24 o28), n39, (ix40 o110), w109, n122, n123, w133, n148, n149, n150, H136, H137, H138, w153, e139, e140, e141, e142, e143, e144, e145, e146, e147, d158, d163, d165, nm, seval]
         exact ⟨p134, Nat.lt_succ_self _, by rw [hI134]; refine ⟨p134, c134_33 + 1, true, true, IntKind.i64.wrap ((IntKind.i64.wrap (r29.SightStreet.Eye.Low + c111_20)) * (IntKind.i64.wrap (r29.SightStreet.Light.Low + c134_33))), rfl, cnt_lo hi134, cnt_next hp134, rfl, (show nx111 + 14 ≤ nx134 + 45 by omega), ?_, ?_, ?_, e139, e140, e141, e142, e143, e144, ?_, ?_, ?_, h⟩ <;> first | (simp only [ua, b157, n39, w109, n122, n123, w133, n148, n149, n150, H136, H137, H138, w153, e139, e140, e141, e142, e143, e144, e145, e146, e147, d158, d163, d165, nm, seval] <;> rfl) | rfl⟩
end Go.V
end
