/- Part of the proof of statements of YtbpeickbdiihcaaGreatDoor: a logic of values by content, the lifted functions, and what follows. -/
import Derived.Test.YtbpeickbdiihcaaGreatDoorPbf
import Derived.Test.YtbpeickbdiihcaaGreatDoorPbh
import Derived.Test.YtbpeickbdiihcaaGreatDoorPbi
import Derived.Test.YtbpeickbdiihcaaGreatDoorPbk
import Derived.Test.YtbpeickbdiihcaaGreatDoorPbl
set_option linter.unusedVariables false
set_option linter.unusedSimpArgs false
set_option linter.unusedSectionVars false
set_option linter.constructorNameAsVariable false
set_option linter.defProp false
set_option maxRecDepth 4000
set_option maxHeartbeats 4000000
section
namespace Go.V
open Go Go.Proofs
def g_sight_Letters_l2 (r3 : Gsightview) (c0_28 : Int) (c1_20 : Int) : Nat → Int → Bool → Bool → Int → Option (LOut (Int) (Bool × Bool × Int))
 | 0, c2_33, c2_5, c2_6, c2_o0 => some (.go (c2_5, c2_6, c2_o0))
 | k2 + 1, c2_33, c2_5, c2_6, c2_o0 => Option.bind (g_sight_view_isLegible (Gsightview.mk r3.SightStreet r3.SightPlace r3.board (IntKind.i64.wrap ((IntKind.i64.wrap (r3.SightStreet.Eye.Low + c1_20)) * (IntKind.i64.wrap (r3.SightStreet.Light.Low + c2_33))))) c0_28) (fun r9 => cond (c2_5) (cond (c2_6) (cond (r9) (g_sight_Letters_l2 r3 c0_28 c1_20 k2 (c2_33 + 1) true true (IntKind.i64.wrap ((IntKind.i64.wrap (r3.SightStreet.Eye.Low + c1_20)) * (IntKind.i64.wrap (r3.SightStreet.Light.Low + c2_33))))) (some (.brk 0 (false, true, IntKind.i64.wrap ((IntKind.i64.wrap (r3.SightStreet.Eye.Low + c1_20)) * (IntKind.i64.wrap (r3.SightStreet.Light.Low + c2_33))))))) (cond (r9) (g_sight_Letters_l2 r3 c0_28 c1_20 k2 (c2_33 + 1) true true (IntKind.i64.wrap ((IntKind.i64.wrap (r3.SightStreet.Eye.Low + c1_20)) * (IntKind.i64.wrap (r3.SightStreet.Light.Low + c2_33))))) (g_sight_Letters_l2 r3 c0_28 c1_20 k2 (c2_33 + 1) false false (IntKind.i64.wrap ((IntKind.i64.wrap (r3.SightStreet.Eye.Low + c1_20)) * (IntKind.i64.wrap (r3.SightStreet.Light.Low + c2_33))))))) (cond (c2_6) (some (.brk 0 (false, true, IntKind.i64.wrap ((IntKind.i64.wrap (r3.SightStreet.Eye.Low + c1_20)) * (IntKind.i64.wrap (r3.SightStreet.Light.Low + c2_33)))))) (cond (r9) (some (.brk 0 (false, true, IntKind.i64.wrap ((IntKind.i64.wrap (r3.SightStreet.Eye.Low + c1_20)) * (IntKind.i64.wrap (r3.SightStreet.Light.Low + c2_33)))))) (g_sight_Letters_l2 r3 c0_28 c1_20 k2 (c2_33 + 1) false false (IntKind.i64.wrap ((IntKind.i64.wrap (r3.SightStreet.Eye.Low + c1_20)) * (IntKind.i64.wrap (r3.SightStreet.Light.Low + c2_33))))))))
def g_sight_Letters_l1 (r3 : Gsightview) (c0_28 : Int) : Nat → Int → Bool → Bool → Int → Option (LOut (Int) (Bool × Bool × Int))
 | 0, c1_20, c1_5, c1_6, c1_o0 => some (.go (c1_5, c1_6, c1_o0))
 | k1 + 1, c1_20, c1_5, c1_6, c1_o0 => cond (boundOk (IntKind.i64.wrap ((IntKind.i64.wrap (r3.SightStreet.Light.High - r3.SightStreet.Light.Low)) + 1))) (lbind (g_sight_Letters_l2 r3 c0_28 c1_20 (Int.toNat ((IntKind.i64.wrap ((IntKind.i64.wrap (r3.SightStreet.Light.High - r3.SightStreet.Light.Low)) + 1)) - 0)) 0 c1_5 c1_6 c1_o0) (fun r11 => some (.ret r11)) (fun c10 => g_sight_Letters_l1 r3 c0_28 k1 (c1_20 + 1) c10.1 c10.2.1 c10.2.2) (fun _ c12 => some (.go (c12.1, c12.2.1, c12.2.2)))) none
def g_sight_Letters_l0 (r3 : Gsightview) : List GSightLetter → Int → (List Int) → Option (LOut ((List Int) × Int) ((List Int)))
 | [], c0_28, c0_9 => some (.go c0_9)
 | e0 :: p0, c0_28, c0_9 => cond (boundOk (IntKind.i64.wrap ((IntKind.i64.wrap (r3.SightStreet.Eye.High - r3.SightStreet.Eye.Low)) + 1))) (lbind (g_sight_Letters_l1 r3 c0_28 (Int.toNat ((IntKind.i64.wrap ((IntKind.i64.wrap (r3.SightStreet.Eye.High - r3.SightStreet.Eye.Low)) + 1)) - 0)) 0 true false r3.power) (fun r14 => cond (roomOk 8 (List.length (c0_9 ++ [r14]))) (g_sight_Letters_l0 r3 p0 (c0_28 + 1) (c0_9 ++ [r14])) none) (fun c13 => cond (c13.1) (cond (roomOk 8 (List.length (c0_9 ++ [3]))) (g_sight_Letters_l0 r3 p0 (c0_28 + 1) (c0_9 ++ [3])) none) (cond (c13.2.1) (cond (roomOk 8 (List.length (c0_9 ++ [2]))) (g_sight_Letters_l0 r3 p0 (c0_28 + 1) (c0_9 ++ [2])) none) (cond (roomOk 8 (List.length (c0_9 ++ [1]))) (g_sight_Letters_l0 r3 p0 (c0_28 + 1) (c0_9 ++ [1])) none))) (fun _ _ => none)) none
def g_sight_Letters (x0_s : GSightStreet) (x1_board : Int) (x2_from : GSightPlace) : Option ((List Int) × Int) := Option.bind (g_sight_isView x0_s x1_board x2_from) (fun r1 => cond (r1) (Option.bind (getI x0_s.Boards x1_board) (fun x2 => Option.bind (g_sight_atWorst x0_s x2 x2_from) (fun r3 => cond (lenOk r3.board.Letters) (lbind (g_sight_Letters_l0 r3 r3.board.Letters 0 ([] : List Int)) (fun r16 => some r16) (fun c15 => some (c15, 0)) (fun _ _ => none)) none))) (some (([] : List Int), 2)))
theorem g_sight_Letters_ok (x0_s : GSightStreet) (x1_board : Int) (x2_from : GSightPlace) (R : (List Int) × Int) (h : g_sight_Letters x0_s x1_board x2_from = some R) : VPure Tryz.prog G0 28 [.agg (cGSightStreet x0_s), .lit (.int .i64 x1_board), .agg (cGSightPlace x2_from)] (.tree (.tup [.sl (cellsL eI R.1) (List.length R.1) false, .lit (.int .i64 R.2)])) := by
 refine VPure.runR mixed Tryz.call28 Tryz.func28 rfl (by simp [Tryz.ntmps28]; kernel_rfl) ?_
 obtain ⟨KF, h, kF, kN⟩ := fun_intro h
 simp only [g_sight_Letters] at h
 cases o18 : (g_sight_isView x0_s x1_board x2_from) with
 | none =>
  simp only [o18, hs, reduceCtorEq] at h
  exact absurd h kN
 | some r17 =>
  simp only [o18, hs, reduceCtorEq] at h
  simp only [vz, tyf, nm, seval]
  refine ktree (args0 := [.agg (cGSightStreet x0_s), .lit (.int .i64 x1_board), .agg (cGSightPlace x2_from)]) (by first | (simp only [nrm, tynrm] <;> rfl) | rfl) (by simp only [tre, tytre, Bool.and_self]) (g_sight_isView_ok _ _ _ _ o18) ?_
  refine fin_cut (fun tm => tm 1 = .lit (.int .i64 x1_board) ∧ tm 3 = .ptr 0 0 ∧ tm 5 = .ptr 1 0 ∧ tm 14 = .lit (.bool r17) ∧ True) (by refine ⟨?_, ?_, ?_, ?_, trivial⟩ <;> first | (simp only [ua, nm, seval] <;> rfl) | rfl) ?_
  rintro tm ⟨e19, e20, e21, e22, _⟩
  cases d23 : (r17)
  ·simp only [d23, hs, reduceCtorEq] at h
   simp only [vz, tyf, e19, e20, e21, e22, d23, nm, seval]
   refine opd_ret (x := (.tup [.lit (.slice none 0 0), .lit (.int .i64 2)])) (by first | (simp only [Tryz.results28, resV, resL, resV1, tgt_ptr, tgt_tp, uw, cr, tyf, e19, e20, e21, e22, d23, nm, seval] <;> rfl) | rfl) ?_
   obtain rfl := kF _ h
   refine rr_tree ?_ ?_
   ·simp only [tre, tytre, Bool.and_self]
   ·first | (simp only [outV, uw, showV_ref, cr, tyf, nrm, tynrm, e19, e20, e21, e22, d23, nm, seval] <;> rfl) | rfl
  simp only [d23, hs, reduceCtorEq] at h
  simp only [vz, tyf, e19, e20, e21, e22, d23, nm, seval]
  refine cwp_drawTF (fun tm => tm 1 = .lit (.int .i64 x1_board) ∧ tm 3 = .ptr 0 0 ∧ tm 5 = .ptr 1 0 ∧ True) (by refine ⟨e19, e20, e21, trivial⟩ <;> first | (simp only [ua, e19, e20, e21, e22, d23, nm, seval] <;> rfl) | rfl) ?_
  rintro tm ⟨e24, e25, e26, _⟩
  cases o28 : (getI x0_s.Boards x1_board) with
  | none =>
   simp only [o28, hs, reduceCtorEq] at h
   exact absurd h kN
  | some x27 =>
   simp only [o28, hs, reduceCtorEq] at h
   cases o30 : (g_sight_atWorst x0_s x27 x2_from) with
   | none =>
    simp only [o30, hs, reduceCtorEq] at h
    exact absurd h kN
   | some r29 =>
    simp only [o30, hs, reduceCtorEq] at h
    simp only [vz, tyf, d23, e24, e25, e26, (ix24 o28), nm, seval]
    refine dktree (args0 := [.agg (cGSightStreet x0_s), .agg (cGSightBoard x27), .agg (cGSightPlace x2_from)]) (by first | (simp only [nrm, tynrm] <;> rfl) | rfl) (by simp only [tre, tytre, Bool.and_self]) (g_sight_atWorst_ok _ _ _ _ o30) ?_
    refine fin_cut (fun tm => tm 23 = .agg (cGsightview r29) ∧ True) (by refine ⟨?_, trivial⟩ <;> first | (simp only [ua, d23, e24, e25, e26, nm, seval] <;> rfl) | rfl) ?_
    rintro tm ⟨e31, _⟩
    simp only [vz, tyf, d23, (ix24 o28), e31, nm, seval]
    refine drawK_nil ⟨?_, ?_⟩
    ·simp only [traceR_cons, traceR_nil, hitK_quiet, hitK_nil, and_true, true_and]
     repeat' (first | exact trivial | refine And.intro ?_ ?_ | rw [hitK_quiet] | rw [hitK_cons] | exact Or.inl (by decide +kernel) | exact Or.inl (by dsimp only; decide +kernel) | (refine Or.inr ⟨?_, ?_⟩ <;> simp; done) | (refine Or.inr ⟨?_, ?_⟩ <;> simp <;> omega))
    cases g33 : (lenOk r29.board.Letters)
    ·simp only [g33, hs, reduceCtorEq] at h
     exact absurd h kN
    simp only [g33, hs, reduceCtorEq] at h
    simp only [vz, tyf, d23, (ix24 o28), e31, g33, nm, seval]
    obtain ⟨K32, h, kR32, kG32, kB32, kN32⟩ := lbind_intro h kN
    obtain ⟨f32, hf32, h⟩ := call3 h
    obtain ⟨I32, hI32⟩ : ∃ I : Nat → St → Prop, I = (fun m st => ∃ (p32 : List GSightLetter) (c32_28 : Int) (c32_9 : List Int) (y32_0 : VV), m = List.length p32 ∧ 0 ≤ c32_28 ∧ List.drop (Int.toNat c32_28) r29.board.Letters = p32 ∧ st.df = [] ∧ 25 ≤ st.nx ∧ st.H 17 = some (.cells (some 97) (cGsightview r29)) ∧ st.tm 8 = .ptr 17 0 ∧ st.tm 27 = .lit (.int .i64 (List.length r29.board.Letters : Int)) ∧ st.tm 9 = y32_0 ∧ st.tm 28 = .lit (.int .i64 c32_28) ∧ ((∃ (β : Nat) (el : Option TypeId), y32_0 = .ref β 0 (List.length c32_9) 1 (List.length c32_9) ∧ β < st.nx ∧ β ≠ 17 ∧ st.H β = some (.cells el (cellsL eI c32_9))) ∨ (y32_0 = .lit (.slice none 0 0) ∧ c32_9 = [])) ∧ K32 (f32 p32 c32_28 c32_9)) := ⟨_, rfl⟩
    refine loopK mixed (by kernel_rfl) I32 (List.length r29.board.Letters) (by rw [hI32]; refine ⟨r29.board.Letters, 0, ([] : List Int), .lit (.slice none 0 0), rfl, Int.le_refl _, rfl, rfl, (show 25 ≤ 25 by omega), ?_, ?_, ?_, ?_, ?_, Or.inr ⟨rfl, rfl⟩, h⟩ <;> first | (simp only [ua, d23, e31, nm, seval] <;> rfl) | rfl) ?_
    rintro m ⟨tm, H, nx32, df⟩ hinv
    rw [hI32] at hinv
    obtain ⟨p32, c32_28, c32_9, y32_0, rfl, hi32, hp32, hdf, hn32, H34, e35, e36, e37, e38, ow32_0, h⟩ := hinv
    simp only at hdf hn32 H34 e35 e36 e37 e38 ow32_0
    have n39 := base_ne0 (m := 25) (b := nx32) (by omega)
    subst hdf hf32
    rcases ow32_0 with ⟨b32_0, el32_0, rfl, lq41, lq42, H40⟩ | ⟨rfl, rfl⟩
    ·have q41 := own_lt lq41
     have q42 := ne_f lq42
     cases p32 with
     | nil =>
      have d43 : (decide (c32_28 < (List.length r29.board.Letters : Int))) = false := not_lt_of_drop hi32 hp32
      simp only [g_sight_Letters_l0, hs, reduceCtorEq] at h
      replace h := kG32 _ h
      try dsimp only at h
      try simp only [hs] at h
      simp only [vz, tyf, d23, (ix24 o28), g33, n39, e35, e36, e37, e38, H34, q41, H40, q42, d43, nm, seval]
      refine opd_ret (x := (.tup [.ref b32_0 0 (List.length c32_9) 1 (List.length c32_9), .lit (.int .i64 0)])) (by first | (simp only [Tryz.results28, resV, resL, resV1, tgt_ptr, tgt_tp, uw, cr, tyf, d23, (ix24 o28), g33, n39, e35, e36, e37, e38, H34, q41, H40, q42, d43, nm, seval] <;> rfl) | rfl) ?_
      obtain rfl := kF _ h
      refine rr_tree ?_ ?_
      ·simp only [tre, tytre, Bool.and_self]
      ·first | (simp only [outV, uw, showV_ref, cr, tyf, nrm, tynrm, d23, (ix24 o28), g33, n39, e35, e36, e37, e38, H34, q41, H40, q42, d43, nm, seval] <;> rfl) | rfl
     | cons e32 p32 =>
      have d44 : (decide (c32_28 < (List.length r29.board.Letters : Int))) = true := lt_of_drop hi32 hp32
      have o46 := getI_of_drop hi32 hp32
      have w45 := wrap_next hi32 hp32 g33
      simp only [g_sight_Letters_l0, hs, reduceCtorEq] at h
      simp only [vz, tyf, d23, (ix24 o28), g33, n39, e35, e36, e37, e38, H34, q41, H40, q42, d44, (ix40 o46), w45, nm, seval]
      refine kopen ?_
      rw [openK_eq]
      refine VOpen.run mixed Tryz.call68 Tryz.func68 rfl (by simp [Tryz.ntmps68]; kernel_rfl) ?_
      simp only [vz, tyf, d23, (ix24 o28), g33, n39, H34, q41, H40, q42, d44, (ix40 o46), w45, nm, seval]
      refine cwp_scope mixed (by kernel_rfl) ?_
      cases g48 : (boundOk (IntKind.i64.wrap ((IntKind.i64.wrap (r29.SightStreet.Eye.High - r29.SightStreet.Eye.Low)) + 1)))
      ·simp only [g48, hs, reduceCtorEq] at h
       exact absurd h kN32
      simp only [g48, hs, reduceCtorEq] at h
      simp only [vz, tyf, d23, (ix24 o28), g33, n39, H34, q41, H40, q42, d44, (ix40 o46), w45, g48, nm, seval]
      obtain ⟨K47, h, kR47, kG47, kB47, kN47⟩ := lbind_intro h kN32
      obtain ⟨f47, hf47, h⟩ := call5 h
      obtain ⟨I47, hI47⟩ : ∃ I : Nat → St → Prop, I = (fun m st => ∃ (p47 : Nat) (c47_20 : Int) (c47_5 : Bool) (c47_6 : Bool) (c47_o0 : Int), p47 = m ∧ loOk c47_20 = true ∧ Int.toNat ((IntKind.i64.wrap ((IntKind.i64.wrap (r29.SightStreet.Eye.High - r29.SightStreet.Eye.Low)) + 1)) - c47_20) = p47 ∧ st.df = [] ∧ nx32 + 26 ≤ st.nx ∧ st.H 17 = some (.cells (some 97) (cGsightview r29)) ∧ st.H b32_0 = some (.cells (el32_0) (cellsL eI c32_9)) ∧ st.H (nx32 + 2) = some (.cells (some 3) ([.lit (.int .i64 c32_28)])) ∧ st.H (nx32 + 11) = some (.cells (some 97) ((cGSightStreet r29.SightStreet) ++ (cGSightPlace r29.SightPlace) ++ (cGSightBoard r29.board) ++ [.lit (.int .i64 c47_o0)])) ∧ st.tm 1 = .fn (.func 69) [] [.ptr (nx32 + 2) 0] ∧ st.tm 2 = .ptr (nx32 + 11) 0 ∧ st.tm 19 = .lit (.int .i64 (IntKind.i64.wrap ((IntKind.i64.wrap (r29.SightStreet.Eye.High - r29.SightStreet.Eye.Low)) + 1))) ∧ st.tm 5 = .lit (.bool c47_5) ∧ st.tm 6 = .lit (.bool c47_6) ∧ st.tm 20 = .lit (.int .i64 c47_20) ∧ K47 (f47 p47 c47_20 c47_5 c47_6 c47_o0)) := ⟨_, rfl⟩
      refine loopK mixed (by kernel_rfl) I47 (Int.toNat ((IntKind.i64.wrap ((IntKind.i64.wrap (r29.SightStreet.Eye.High - r29.SightStreet.Eye.Low)) + 1)) - 0)) (by rw [hI47]; refine ⟨Int.toNat ((IntKind.i64.wrap ((IntKind.i64.wrap (r29.SightStreet.Eye.High - r29.SightStreet.Eye.Low)) + 1)) - 0), 0, true, false, r29.power, rfl, (by rfl), rfl, rfl, (show nx32 + 26 ≤ nx32 + 26 by omega), ?_, ?_, ?_, ?_, ?_, ?_, ?_, ?_, ?_, ?_, h⟩ <;> first | (simp only [ua, d23, n39, H34, q41, H40, q42, d44, w45, nm, seval] <;> rfl) | rfl) ?_
      rintro m ⟨tm, H, nx47, df⟩ hinv
      rw [hI47] at hinv
      obtain ⟨p47, c47_20, c47_5, c47_6, c47_o0, rfl, hi47, hp47, hdf, hn47, H49, H50, H51, H52, e53, e54, e55, e56, e57, e58, h⟩ := hinv
      simp only at hdf hn47 H49 H50 H51 H52 e53 e54 e55 e56 e57 e58
      have n59 := base_ne0 (m := 25) (b := nx47) (by omega)
      have n60 := base_ne (a := nx32) (m := 26) (b := nx47) (by omega)
      have n61 := own_lt (β := b32_0) (nx := nx47) (by omega)
      subst hdf hf47
      cases p47 with
      | zero =>
       have d62 : (decide (c47_20 < (IntKind.i64.wrap ((IntKind.i64.wrap (r29.SightStreet.Eye.High - r29.SightStreet.Eye.Low)) + 1)))) = false := cnt_not_lt hp47
       simp only [g_sight_Letters_l1, hs, reduceCtorEq] at h
       replace h := kG47 _ h
       try dsimp only at h
       try simp only [hs] at h
       cases d63 : (c47_5)
       ·simp only [d63, hs, reduceCtorEq] at h
        cases d64 : (c47_6)
        ·simp only [d64, hs, reduceCtorEq] at h
         simp only [vz, tyf, d23, (ix24 o28), g33, n39, q41, q42, d44, (ix40 o46), w45, g48, n59, n60, n61, e53, e54, e55, e56, e57, e58, H49, H50, H51, H52, d62, d63, d64, nm, seval]
         refine opd_ret (x := (.lit (.int .i64 1))) (by first | (simp only [Tryz.results68, resV, resL, resV1, tgt_ptr, tgt_tp, uw, cr, tyf, d23, (ix24 o28), g33, n39, q41, q42, d44, (ix40 o46), w45, g48, n59, n60, n61, e53, e54, e55, e56, e57, e58, H49, H50, H51, H52, d62, d63, d64, nm, seval] <;> rfl) | rfl) ?_
         cases g65 : (roomOk 8 (List.length (c32_9 ++ [1])))
         ·simp only [g65, hs, reduceCtorEq] at h
          exact absurd h kN32
         simp only [g65, hs, reduceCtorEq] at h
         simp only [vz, tyf, d23, (ix24 o28), g33, n39, q41, q42, d44, (ix40 o46), w45, g48, n59, n60, n61, H49, H50, H51, H52, d62, d63, d64, e35, e36, e37, e38, g65, nm, seval]
         refine k_app (w := 1) (enc := eI) (xs := c32_9) (ys := ([1])) (el := el32_0) (el2 := (some 34)) (fun _ => rfl) lf54 ao54 Tryz.underlying54 (by first | rfl | assumption | (simp only [updH_apply, without_apply, et54, n39, q41, q42, n59, n60, n61, H49, H50, H51, H52, nm, seval] <;> rfl) | (simp only [updH_apply, without_apply, cellsL_cons, cellsL_nil, mV_app, mV_app0, tyf, d23, (ix24 o28), g33, n39, q41, q42, d44, (ix40 o46), w45, g48, n59, n60, n61, H49, H50, H51, H52, d62, d63, d64, e35, e36, e37, e38, g65, nm, seval]; done)) (by first | rfl | assumption | (simp only [updH_apply, without_apply, et54, n39, q41, q42, n59, n60, n61, H49, H50, H51, H52, nm, seval] <;> rfl) | (simp only [updH_apply, without_apply, cellsL_cons, cellsL_nil, mV_app, mV_app0, tyf, d23, (ix24 o28), g33, n39, q41, q42, d44, (ix40 o46), w45, g48, n59, n60, n61, H49, H50, H51, H52, d62, d63, d64, e35, e36, e37, e38, g65, nm, seval]; done)) (Nat.zero_lt_succ _) g65 ?_
         simp only [vz, tyf, d23, (ix24 o28), g33, n39, q41, q42, d44, (ix40 o46), w45, g48, n59, n60, n61, H49, H50, H51, H52, d62, d63, d64, e35, e36, e37, e38, g65, nm, seval]
         exact ⟨List.length p32, Nat.lt_succ_self _, by rw [hI32]; refine ⟨p32, c32_28 + 1, (c32_9 ++ [1]), .ref (nx32 + 9) 0 (List.length (c32_9 ++ [1])) 1 (List.length (c32_9 ++ [1])), rfl, Int.le_trans hi32 (Int.le_add_one (Int.le_refl _)), drop_next hi32 hp32, rfl, (show 25 ≤ nx47 + 8 by omega), ?_, e35, e36, ?_, ?_, Or.inl ⟨nx32 + 9, (sameEl el32_0 34), rfl, (by first | omega | (simp only [nm, seval]; omega)), (by first | omega | (intro hh; simp only [n39, q41, q42, n59, n60, n61, reduceCtorEq] at hh)), ?_⟩, h⟩ <;> first | (simp only [ua, d23, n39, q41, q42, d44, w45, n59, n60, n61, H49, H50, H51, H52, d62, d63, d64, e35, e36, e37, e38, nm, seval] <;> rfl) | rfl⟩
        simp only [d64, hs, reduceCtorEq] at h
        simp only [vz, tyf, d23, (ix24 o28), g33, n39, q41, q42, d44, (ix40 o46), w45, g48, n59, n60, n61, e53, e54, e55, e56, e57, e58, H49, H50, H51, H52, d62, d63, d64, nm, seval]
        refine opd_ret (x := (.lit (.int .i64 2))) (by first | (simp only [Tryz.results68, resV, resL, resV1, tgt_ptr, tgt_tp, uw, cr, tyf, d23, (ix24 o28), g33, n39, q41, q42, d44, (ix40 o46), w45, g48, n59, n60, n61, e53, e54, e55, e56, e57, e58, H49, H50, H51, H52, d62, d63, d64, nm, seval] <;> rfl) | rfl) ?_
        cases g66 : (roomOk 8 (List.length (c32_9 ++ [2])))
        ·simp only [g66, hs, reduceCtorEq] at h
         exact absurd h kN32
        simp only [g66, hs, reduceCtorEq] at h
        simp only [vz, tyf, d23, (ix24 o28), g33, n39, q41, q42, d44, (ix40 o46), w45, g48, n59, n60, n61, H49, H50, H51, H52, d62, d63, d64, e35, e36, e37, e38, g66, nm, seval]
        refine k_app (w := 1) (enc := eI) (xs := c32_9) (ys := ([2])) (el := el32_0) (el2 := (some 34)) (fun _ => rfl) lf54 ao54 Tryz.underlying54 (by first | rfl | assumption | (simp only [updH_apply, without_apply, et54, n39, q41, q42, n59, n60, n61, H49, H50, H51, H52, nm, seval] <;> rfl) | (simp only [updH_apply, without_apply, cellsL_cons, cellsL_nil, mV_app, mV_app0, tyf, d23, (ix24 o28), g33, n39, q41, q42, d44, (ix40 o46), w45, g48, n59, n60, n61, H49, H50, H51, H52, d62, d63, d64, e35, e36, e37, e38, g66, nm, seval]; done)) (by first | rfl | assumption | (simp only [updH_apply, without_apply, et54, n39, q41, q42, n59, n60, n61, H49, H50, H51, H52, nm, seval] <;> rfl) | (simp only [updH_apply, without_apply, cellsL_cons, cellsL_nil, mV_app, mV_app0, tyf, d23, (ix24 o28), g33, n39, q41, q42, d44, (ix40 o46), w45, g48, n59, n60, n61, H49, H50, H51, H52, d62, d63, d64, e35, e36, e37, e38, g66, nm, seval]; done)) (Nat.zero_lt_succ _) g66 ?_
        simp only [vz, tyf, d23, (ix24 o28), g33, n39, q41, q42, d44, (ix40 o46), w45, g48, n59, n60, n61, H49, H50, H51, H52, d62, d63, d64, e35, e36, e37, e38, g66, nm, seval]
        exact ⟨List.length p32, Nat.lt_succ_self _, by rw [hI32]; refine ⟨p32, c32_28 + 1, (c32_9 ++ [2]), .ref (nx32 + 9) 0 (List.length (c32_9 ++ [2])) 1 (List.length (c32_9 ++ [2])), rfl, Int.le_trans hi32 (Int.le_add_one (Int.le_refl _)), drop_next hi32 hp32, rfl, (show 25 ≤ nx47 + 8 by omega), ?_, e35, e36, ?_, ?_, Or.inl ⟨nx32 + 9, (sameEl el32_0 34), rfl, (by first | omega | (simp only [nm, seval]; omega)), (by first | omega | (intro hh; simp only [n39, q41, q42, n59, n60, n61, reduceCtorEq] at hh)), ?_⟩, h⟩ <;> first | (simp only [ua, d23, n39, q41, q42, d44, w45, n59, n60, n61, H49, H50, H51, H52, d62, d63, d64, e35, e36, e37, e38, nm, seval] <;> rfl) | rfl⟩
       simp only [d63, hs, reduceCtorEq] at h
       simp only [vz, tyf, d23, (ix24 o28), g33, n39, q41, q42, d44, (ix40 o46), w45, g48, n59, n60, n61, e53, e54, e55, e56, e57, e58, H49, H50, H51, H52, d62, d63, nm, seval]
       refine opd_ret (x := (.lit (.int .i64 3))) (by first | (simp only [Tryz.results68, resV, resL, resV1, tgt_ptr, tgt_tp, uw, cr, tyf, d23, (ix24 o28), g33, n39, q41, q42, d44, (ix40 o46), w45, g48, n59, n60, n61, e53, e54, e55, e56, e57, e58, H49, H50, H51, H52, d62, d63, nm, seval] <;> rfl) | rfl) ?_
       cases g67 : (roomOk 8 (List.length (c32_9 ++ [3])))
       ·simp only [g67, hs, reduceCtorEq] at h
        exact absurd h kN32
       simp only [g67, hs, reduceCtorEq] at h
       simp only [vz, tyf, d23, (ix24 o28), g33, n39, q41, q42, d44, (ix40 o46), w45, g48, n59, n60, n61, H49, H50, H51, H52, d62, d63, e35, e36, e37, e38, g67, nm, seval]
       refine k_app (w := 1) (enc := eI) (xs := c32_9) (ys := ([3])) (el := el32_0) (el2 := (some 34)) (fun _ => rfl) lf54 ao54 Tryz.underlying54 (by first | rfl | assumption | (simp only [updH_apply, without_apply, et54, n39, q41, q42, n59, n60, n61, H49, H50, H51, H52, nm, seval] <;> rfl) | (simp only [updH_apply, without_apply, cellsL_cons, cellsL_nil, mV_app, mV_app0, tyf, d23, (ix24 o28), g33, n39, q41, q42, d44, (ix40 o46), w45, g48, n59, n60, n61, H49, H50, H51, H52, d62, d63, e35, e36, e37, e38, g67, nm, seval]; done)) (by first | rfl | assumption | (simp only [updH_apply, without_apply, et54, n39, q41, q42, n59, n60, n61, H49, H50, H51, H52, nm, seval] <;> rfl) | (simp only [updH_apply, without_apply, cellsL_cons, cellsL_nil, mV_app, mV_app0, tyf, d23, (ix24 o28), g33, n39, q41, q42, d44, (ix40 o46), w45, g48, n59, n60, n61, H49, H50, H51, H52, d62, d63, e35, e36, e37, e38, g67, nm, seval]; done)) (Nat.zero_lt_succ _) g67 ?_
       simp only [vz, tyf, d23, (ix24 o28), g33, n39, q41, q42, d44, (ix40 o46), w45, g48, n59, n60, n61, H49, H50, H51, H52, d62, d63, e35, e36, e37, e38, g67, nm, seval]
       exact ⟨List.length p32, Nat.lt_succ_self _, by rw [hI32]; refine ⟨p32, c32_28 + 1, (c32_9 ++ [3]), .ref (nx32 + 9) 0 (List.length (c32_9 ++ [3])) 1 (List.length (c32_9 ++ [3])), rfl, Int.le_trans hi32 (Int.le_add_one (Int.le_refl _)), drop_next hi32 hp32, rfl, (show 25 ≤ nx47 + 6 by omega), ?_, e35, e36, ?_, ?_, Or.inl ⟨nx32 + 9, (sameEl el32_0 34), rfl, (by first | omega | (simp only [nm, seval]; omega)), (by first | omega | (intro hh; simp only [n39, q41, q42, n59, n60, n61, reduceCtorEq] at hh)), ?_⟩, h⟩ <;> first | (simp only [ua, d23, n39, q41, q42, d44, w45, n59, n60, n61, H49, H50, H51, H52, d62, d63, e35, e36, e37, e38, nm, seval] <;> rfl) | rfl⟩
      | succ p47 =>
       have d68 : (decide (c47_20 < (IntKind.i64.wrap ((IntKind.i64.wrap (r29.SightStreet.Eye.High - r29.SightStreet.Eye.Low)) + 1)))) = true := cnt_lt hp47
       have w69 := cnt_wrap hi47 hp47 g48
       simp only [g_sight_Letters_l1, hs, reduceCtorEq] at h
       cases g71 : (boundOk (IntKind.i64.wrap ((IntKind.i64.wrap (r29.SightStreet.Light.High - r29.SightStreet.Light.Low)) + 1)))
       ·simp only [g71, hs, reduceCtorEq] at h
        exact absurd h kN47
       simp only [g71, hs, reduceCtorEq] at h
       simp only [vz, tyf, d23, (ix24 o28), g33, n39, q41, q42, d44, (ix40 o46), w45, g48, n59, n60, n61, e53, e54, e55, e56, e57, e58, H49, H50, H51, H52, d68, w69, g71, nm, seval]
       obtain ⟨K70, h, kR70, kG70, kB70, kN70⟩ := lbind_intro h kN47
       obtain ⟨f70, hf70, h⟩ := call5 h
       obtain ⟨I70, hI70⟩ : ∃ I : Nat → St → Prop, I = (fun m st => ∃ (p70 : Nat) (c70_33 : Int) (c70_5 : Bool) (c70_6 : Bool) (c70_o0 : Int), p70 = m ∧ loOk c70_33 = true ∧ Int.toNat ((IntKind.i64.wrap ((IntKind.i64.wrap (r29.SightStreet.Light.High - r29.SightStreet.Light.Low)) + 1)) - c70_33) = p70 ∧ st.df = [] ∧ nx47 + 14 ≤ st.nx ∧ st.H 17 = some (.cells (some 97) (cGsightview r29)) ∧ st.H b32_0 = some (.cells (el32_0) (cellsL eI c32_9)) ∧ st.H (nx32 + 2) = some (.cells (some 3) ([.lit (.int .i64 c32_28)])) ∧ st.H (nx32 + 11) = some (.cells (some 97) ((cGSightStreet r29.SightStreet) ++ (cGSightPlace r29.SightPlace) ++ (cGSightBoard r29.board) ++ [.lit (.int .i64 c70_o0)])) ∧ st.tm 1 = .fn (.func 69) [] [.ptr (nx32 + 2) 0] ∧ st.tm 2 = .ptr (nx32 + 11) 0 ∧ st.tm 7 = .lit (.int .i64 c47_20) ∧ st.tm 19 = .lit (.int .i64 (IntKind.i64.wrap ((IntKind.i64.wrap (r29.SightStreet.Eye.High - r29.SightStreet.Eye.Low)) + 1))) ∧ st.tm 20 = .lit (.int .i64 c47_20) ∧ st.tm 32 = .lit (.int .i64 (IntKind.i64.wrap ((IntKind.i64.wrap (r29.SightStreet.Light.High - r29.SightStreet.Light.Low)) + 1))) ∧ st.tm 5 = .lit (.bool c70_5) ∧ st.tm 6 = .lit (.bool c70_6) ∧ st.tm 33 = .lit (.int .i64 c70_33) ∧ K70 (f70 p70 c70_33 c70_5 c70_6 c70_o0)) := ⟨_, rfl⟩
       refine loopK mixed (by kernel_rfl) I70 (Int.toNat ((IntKind.i64.wrap ((IntKind.i64.wrap (r29.SightStreet.Light.High - r29.SightStreet.Light.Low)) + 1)) - 0)) (by rw [hI70]; refine ⟨Int.toNat ((IntKind.i64.wrap ((IntKind.i64.wrap (r29.SightStreet.Light.High - r29.SightStreet.Light.Low)) + 1)) - 0), 0, c47_5, c47_6, c47_o0, rfl, (by rfl), rfl, rfl, (show nx47 + 14 ≤ nx47 + 14 by omega), ?_, ?_, ?_, ?_, e53, e54, ?_, e55, e58, ?_, e56, e57, ?_, h⟩ <;> first | (simp only [ua, d23, n39, q41, q42, d44, w45, n59, n60, n61, e53, e54, e55, e56, e57, e58, H49, H50, H51, H52, d68, w69, nm, seval] <;> rfl) | rfl) ?_
       rintro m ⟨tm, H, nx70, df⟩ hinv
       rw [hI70] at hinv
       obtain ⟨p70, c70_33, c70_5, c70_6, c70_o0, rfl, hi70, hp70, hdf, hn70, H72, H73, H74, H75, e76, e77, e78, e79, e80, e81, e82, e83, e84, h⟩ := hinv
       simp only at hdf hn70 H72 H73 H74 H75 e76 e77 e78 e79 e80 e81 e82 e83 e84
       have n85 := base_ne0 (m := 25) (b := nx70) (by omega)
       have n86 := base_ne (a := nx32) (m := 26) (b := nx70) (by omega)
       have n87 := base_ne (a := nx47) (m := 14) (b := nx70) (by omega)
       have n88 := own_lt (β := b32_0) (nx := nx70) (by omega)
       subst hdf hf70
       cases p70 with
       | zero =>
        have d89 : (decide (c70_33 < (IntKind.i64.wrap ((IntKind.i64.wrap (r29.SightStreet.Light.High - r29.SightStreet.Light.Low)) + 1)))) = false := cnt_not_lt hp70
        simp only [g_sight_Letters_l2, hs, reduceCtorEq] at h
        replace h := kG70 _ h
        try dsimp only at h
        try simp only [hs] at h
        simp only [vz, tyf, d23, (ix24 o28), g33, n39, q41, q42, d44, (ix40 o46), w45, g48, n59, n60, n61, d68, w69, g71, n85, n86, n87, n88, e76, e77, e78, e79, e80, e81, e82, e83, e84, H72, H73, H74, H75, d89, nm, seval]
        exact ⟨p47, Nat.lt_succ_self _, by rw [hI47]; refine ⟨p47, c47_20 + 1, c70_5, c70_6, c70_o0, rfl, cnt_lo hi47, cnt_next hp47, rfl, (show nx32 + 26 ≤ nx70 + 3 by omega), ?_, ?_, ?_, ?_, e76, e77, e79, e82, e83, ?_, h⟩ <;> first | (simp only [ua, d23, n39, q41, q42, d44, w45, n59, n60, n61, d68, w69, n85, n86, n87, n88, e76, e77, e78, e79, e80, e81, e82, e83, e84, H72, H73, H74, H75, d89, nm, seval] <;> rfl) | rfl⟩
       | succ p70 =>
        have d90 : (decide (c70_33 < (IntKind.i64.wrap ((IntKind.i64.wrap (r29.SightStreet.Light.High - r29.SightStreet.Light.Low)) + 1)))) = true := cnt_lt hp70
        have w91 := cnt_wrap hi70 hp70 g71
        simp only [g_sight_Letters_l2, hs, reduceCtorEq] at h
        simp only [vz, tyf, d23, (ix24 o28), g33, n39, q41, q42, d44, (ix40 o46), w45, g48, n59, n60, n61, d68, w69, g71, n85, n86, n87, n88, e76, e77, e78, e79, e80, e81, e82, e83, e84, H72, H73, H74, H75, d90, w91, nm, seval]
        refine kopen ?_
        rw [openK_eq]
        refine VOpen.run mixed Tryz.call69 Tryz.func69 rfl (by simp [Tryz.ntmps69]; kernel_rfl) ?_
        cases o93 : (g_sight_view_isLegible (Gsightview.mk r29.SightStreet r29.SightPlace r29.board (IntKind.i64.wrap ((IntKind.i64.wrap (r29.SightStreet.Eye.Low + c47_20)) * (IntKind.i64.wrap (r29.SightStreet.Light.Low + c70_33))))) c32_28) with
        | none =>
         simp only [o93, hs, reduceCtorEq] at h
         exact absurd h kN70
        | some r92 =>
         simp only [o93, hs, reduceCtorEq] at h
         simp only [vz, tyf, d23, (ix24 o28), g33, n39, q41, q42, d44, (ix40 o46), w45, g48, n59, n60, n61, d68, w69, g71, n85, n86, n87, n88, H72, H73, H74, H75, d90, w91, nm, seval]
         refine ktree (args0 := [.agg (cGsightview (Gsightview.mk r29.SightStreet r29.SightPlace r29.board (IntKind.i64.wrap ((IntKind.i64.wrap (r29.SightStreet.Eye.Low + c47_20)) * (IntKind.i64.wrap (r29.SightStreet.Light.Low + c70_33)))))), .lit (.int .i64 c32_28)]) (by first | (simp only [nrm, tynrm] <;> rfl) | rfl) (by simp only [tre, tytre, Bool.and_self]) (g_sight_view_isLegible_ok _ _ _ o93) ?_
         refine fin_cut (fun tm => tm 6 = .lit (.bool r92) ∧ True) (by refine ⟨?_, trivial⟩ <;> first | (simp only [ua, d23, n39, q41, q42, d44, w45, n59, n60, n61, d68, w69, n85, n86, n87, n88, H72, H73, H74, H75, d90, w91, nm, seval] <;> rfl) | rfl) ?_
         rintro tm ⟨e94, _⟩
         simp only [vz, tyf, d23, (ix24 o28), g33, n39, q41, q42, d44, (ix40 o46), w45, g48, n59, n60, n61, d68, w69, g71, n85, n86, n87, n88, H72, H73, H74, H75, d90, w91, e94, nm, seval]
         refine opd_ret (x := (.lit (.bool r92))) (by first | (simp only [Tryz.results69, resV, resL, resV1, tgt_ptr, tgt_tp, uw, cr, tyf, d23, (ix24 o28), g33, n39, q41, q42, d44, (ix40 o46), w45, g48, n59, n60, n61, d68, w69, g71, n85, n86, n87, n88, H72, H73, H74, H75, d90, w91, e94, nm, seval] <;> rfl) | rfl) ?_
         cases d95 : (c70_5)
         ·simp only [d95, hs, reduceCtorEq] at h
          cases d96 : (c70_6)
          ·simp only [d96, hs, reduceCtorEq] at h
           cases d97 : (r92)
           ·simp only [d97, hs, reduceCtorEq] at h
            simp only [vz, tyf, d23, (ix24 o28), g33, n39, q41, q42, d44, (ix40 o46), w45, g48, n59, n60, n61, d68, w69, g71, n85, n86, n87, n88, H72, H73, H74, H75, d90, w91, e76, e77, e78, e79, e80, e81, e82, e83, e84, d95, d96, d97, nm, seval]
            exact ⟨p70, Nat.lt_succ_self _, by rw [hI70]; refine ⟨p70, c70_33 + 1, false, false, IntKind.i64.wrap ((IntKind.i64.wrap (r29.SightStreet.Eye.Low + c47_20)) * (IntKind.i64.wrap (r29.SightStreet.Light.Low + c70_33))), rfl, cnt_lo hi70, cnt_next hp70, rfl, (show nx47 + 14 ≤ nx70 + 45 by omega), ?_, ?_, ?_, ?_, e76, e77, e78, e79, e80, e81, ?_, ?_, ?_, h⟩ <;> first | (simp only [ua, d23, n39, q41, q42, d44, w45, n59, n60, n61, d68, w69, n85, n86, n87, n88, H72, H73, H74, H75, d90, w91, e76, e77, e78, e79, e80, e81, e82, e83, e84, d95, d96, d97, nm, seval] <;> rfl) | rfl⟩
           simp only [d97, hs, reduceCtorEq] at h
           replace h := kB70 _ _ h
           try dsimp only at h
           try simp only [hs] at h
           replace h := kG47 _ h
           try dsimp only at h
           try simp only [hs] at h
           simp only [vz, tyf, d23, (ix24 o28), g33, n39, q41, q42, d44, (ix40 o46), w45, g48, n59, n60, n61, d68, w69, g71, n85, n86, n87, n88, H72, H73, H74, H75, d90, w91, e76, e77, e78, e79, e80, e81, e82, e83, e84, d95, d96, d97, nm, seval]
           refine opd_ret (x := (.lit (.int .i64 2))) (by first | (simp only [Tryz.results68, resV, resL, resV1, tgt_ptr, tgt_tp, uw, cr, tyf, d23, (ix24 o28), g33, n39, q41, q42, d44, (ix40 o46), w45, g48, n59, n60, n61, d68, w69, g71, n85, n86, n87, n88, H72, H73, H74, H75, d90, w91, e76, e77, e78, e79, e80, e81, e82, e83, e84, d95, d96, d97, nm, seval] <;> rfl) | rfl) ?_
           cases g98 : (roomOk 8 (List.length (c32_9 ++ [2])))
           ·simp only [g98, hs, reduceCtorEq] at h
            exact absurd h kN32
           simp only [g98, hs, reduceCtorEq] at h
           simp only [vz, tyf, d23, (ix24 o28), g33, n39, q41, q42, d44, (ix40 o46), w45, g48, n59, n60, n61, d68, w69, g71, n85, n86, n87, n88, H72, H73, H74, H75, d90, w91, d95, d96, d97, e35, e36, e37, e38, g98, nm, seval]
           refine k_app (w := 1) (enc := eI) (xs := c32_9) (ys := ([2])) (el := el32_0) (el2 := (some 34)) (fun _ => rfl) lf54 ao54 Tryz.underlying54 (by first | rfl | assumption | (simp only [updH_apply, without_apply, et54, n39, q41, q42, n59, n60, n61, n85, n86, n87, n88, H72, H73, H74, H75, nm, seval] <;> rfl) | (simp only [updH_apply, without_apply, cellsL_cons, cellsL_nil, mV_app, mV_app0, tyf, d23, (ix24 o28), g33, n39, q41, q42, d44, (ix40 o46), w45, g48, n59, n60, n61, d68, w69, g71, n85, n86, n87, n88, H72, H73, H74, H75, d90, w91, d95, d96, d97, e35, e36, e37, e38, g98, nm, seval]; done)) (by first | rfl | assumption | (simp only [updH_apply, without_apply, et54, n39, q41, q42, n59, n60, n61, n85, n86, n87, n88, H72, H73, H74, H75, nm, seval] <;> rfl) | (simp only [updH_apply, without_apply, cellsL_cons, cellsL_nil, mV_app, mV_app0, tyf, d23, (ix24 o28), g33, n39, q41, q42, d44, (ix40 o46), w45, g48, n59, n60, n61, d68, w69, g71, n85, n86, n87, n88, H72, H73, H74, H75, d90, w91, d95, d96, d97, e35, e36, e37, e38, g98, nm, seval]; done)) (Nat.zero_lt_succ _) g98 ?_
           simp only [vz, tyf, d23, (ix24 o28), g33, n39, q41, q42, d44, (ix40 o46), w45, g48, n59, n60, n61, d68, w69, g71, n85, n86, n87, n88, H72, H73, H74, H75, d90, w91, d95, d96, d97, e35, e36, e37, e38, g98, nm, seval]
           exact ⟨List.length p32, Nat.lt_succ_self _, by rw [hI32]; refine ⟨p32, c32_28 + 1, (c32_9 ++ [2]), .ref (nx32 + 9) 0 (List.length (c32_9 ++ [2])) 1 (List.length (c32_9 ++ [2])), rfl, Int.le_trans hi32 (Int.le_add_one (Int.le_refl _)), drop_next hi32 hp32, rfl, (show 25 ≤ nx70 + 50 by omega), ?_, e35, e36, ?_, ?_, Or.inl ⟨nx32 + 9, (sameEl el32_0 34), rfl, (by first | omega | (simp only [nm, seval]; omega)), (by first | omega | (intro hh; simp only [n39, q41, q42, n59, n60, n61, n85, n86, n87, n88, reduceCtorEq] at hh)), ?_⟩, h⟩ <;> first | (simp only [ua, d23, n39, q41, q42, d44, w45, n59, n60, n61, d68, w69, n85, n86, n87, n88, H72, H73, H74, H75, d90, w91, d95, d96, d97, e35, e36, e37, e38, nm, seval] <;> rfl) | rfl⟩
          simp only [d96, hs, reduceCtorEq] at h
          replace h := kB70 _ _ h
          try dsimp only at h
          try simp only [hs] at h
          replace h := kG47 _ h
          try dsimp only at h
          try simp only [hs] at h
          simp only [vz, tyf, d23, (ix24 o28), g33, n39, q41, q42, d44, (ix40 o46), w45, g48, n59, n60, n61, d68, w69, g71, n85, n86, n87, n88, H72, H73, H74, H75, d90, w91, e76, e77, e78, e79, e80, e81, e82, e83, e84, d95, d96, nm, seval]
          refine opd_ret (x := (.lit (.int .i64 2))) (by first | (simp only [Tryz.results68, resV, resL, resV1, tgt_ptr, tgt_tp, uw, cr, tyf, d23, (ix24 o28), g33, n39, q41, q42, d44, (ix40 o46), w45, g48, n59, n60, n61, d68, w69, g71, n85, n86, n87, n88, H72, H73, H74, H75, d90, w91, e76, e77, e78, e79, e80, e81, e82, e83, e84, d95, d96, nm, seval] <;> rfl) | rfl) ?_
          cases g99 : (roomOk 8 (List.length (c32_9 ++ [2])))
          ·simp only [g99, hs, reduceCtorEq] at h
           exact absurd h kN32
          simp only [g99, hs, reduceCtorEq] at h
          simp only [vz, tyf, d23, (ix24 o28), g33, n39, q41, q42, d44, (ix40 o46), w45, g48, n59, n60, n61, d68, w69, g71, n85, n86, n87, n88, H72, H73, H74, H75, d90, w91, d95, d96, e35, e36, e37, e38, g99, nm, seval]
          refine k_app (w := 1) (enc := eI) (xs := c32_9) (ys := ([2])) (el := el32_0) (el2 := (some 34)) (fun _ => rfl) lf54 ao54 Tryz.underlying54 (by first | rfl | assumption | (simp only [updH_apply, without_apply, et54, n39, q41, q42, n59, n60, n61, n85, n86, n87, n88, H72, H73, H74, H75, nm, seval] <;> rfl) | (simp only [updH_apply, without_apply, cellsL_cons, cellsL_nil, mV_app, mV_app0, tyf, d23, (ix24 o28), g33, n39, q41, q42, d44, (ix40 o46), w45, g48, n59, n60, n61, d68, w69, g71, n85, n86, n87, n88, H72, H73, H74, H75, d90, w91, d95, d96, e35, e36, e37, e38, g99, nm, seval]; done)) (by first | rfl | assumption | (simp only [updH_apply, without_apply, et54, n39, q41, q42, n59, n60, n61, n85, n86, n87, n88, H72, H73, H74, H75, nm, seval] <;> rfl) | (simp only [updH_apply, without_apply, cellsL_cons, cellsL_nil, mV_app, mV_app0, tyf, d23, (ix24 o28), g33, n39, q41, q42, d44, (ix40 o46), w45, g48, n59, n60, n61, d68, w69, g71, n85, n86, n87, n88, H72, H73, H74, H75, d90, w91, d95, d96, e35, e36, e37, e38, g99, nm, seval]; done)) (Nat.zero_lt_succ _) g99 ?_
          simp only [vz, tyf, d23, (ix24 o28), g33, n39, q41, q42, d44, (ix40 o46), w45, g48, n59, n60, n61, d68, w69, g71, n85, n86, n87, n88, H72, H73, H74, H75, d90, w91, d95, d96, e35, e36, e37, e38, g99, nm, seval]
          exact ⟨List.length p32, Nat.lt_succ_self _, by rw [hI32]; refine ⟨p32, c32_28 + 1, (c32_9 ++ [2]), .ref (nx32 + 9) 0 (List.length (c32_9 ++ [2])) 1 (List.length (c32_9 ++ [2])), rfl, Int.le_trans hi32 (Int.le_add_one (Int.le_refl _)), drop_next hi32 hp32, rfl, (show 25 ≤ nx70 + 50 by omega), ?_, e35, e36, ?_, ?_, Or.inl ⟨nx32 + 9, (sameEl el32_0 34), rfl, (by first | omega | (simp only [nm, seval]; omega)), (by first | omega | (intro hh; simp only [n39, q41, q42, n59, n60, n61, n85, n86, n87, n88, reduceCtorEq] at hh)), ?_⟩, h⟩ <;> first | (simp only [ua, d23, n39, q41, q42, d44, w45, n59, n60, n61, d68, w69, n85, n86, n87, n88, H72, H73, H74, H75, d90, w91, d95, d96, e35, e36, e37, e38, nm, seval] <;> rfl) | rfl⟩
         simp only [d95, hs, reduceCtorEq] at h
         cases d100 : (c70_6)
         ·simp only [d100, hs, reduceCtorEq] at h
          cases d101 : (r92)
          ·simp only [d101, hs, reduceCtorEq] at h
           simp only [vz, tyf, d23, (ix24 o28), g33, n39, q41, q42, d44, (ix40 o46), w45, g48, n59, n60, n61, d68, w69, g71, n85, n86, n87, n88, H72, H73, H74, H75, d90, w91, e76, e77, e78, e79, e80, e81, e82, e83, e84, d95, d100, d101, nm, seval]
           exact ⟨p70, Nat.lt_succ_self _, by rw [hI70]; refine ⟨p70, c70_33 + 1, false, false, IntKind.i64.wrap ((IntKind.i64.wrap (r29.SightStreet.Eye.Low + c47_20)) * (IntKind.i64.wrap (r29.SightStreet.Light.Low + c70_33))), rfl, cnt_lo hi70, cnt_next hp70, rfl, (show nx47 + 14 ≤ nx70 + 45 by omega), ?_, ?_, ?_, ?_, e76, e77, e78, e79, e80, e81, ?_, ?_, ?_, h⟩ <;> first | (simp only [ua, d23, n39, q41, q42, d44, w45, n59, n60, n61, d68, w69, n85, n86, n87, n88, H72, H73, H74, H75, d90, w91, e76, e77, e78, e79, e80, e81, e82, e83, e84, d95, d100, d101, nm, seval] <;> rfl) | rfl⟩
          simp only [d101, hs, reduceCtorEq] at h
          simp only [vz, tyf, d23, (ix24 o28), g33, n39, q41, q42, d44, (ix40 o46), w45, g48, n59, n60, n61, d68, w69, g71, n85, n86, n87, n88, H72, H73, H74, H75, d90, w91, e76, e77, e78, e79, e80, e81, e82, e83, e84, d95, d100, d101, nm, seval]
          exact ⟨p70, Nat.lt_succ_self _, by rw [hI70]; refine ⟨p70, c70_33 + 1, true, true, IntKind.i64.wrap ((IntKind.i64.wrap (r29.SightStreet.Eye.Low + c47_20)) * (IntKind.i64.wrap (r29.SightStreet.Light.Low + c70_33))), rfl, cnt_lo hi70, cnt_next hp70, rfl, (show nx47 + 14 ≤ nx70 + 45 by omega), ?_, ?_, ?_, ?_, e76, e77, e78, e79, e80, e81, ?_, ?_, ?_, h⟩ <;> first | (simp only [ua, d23, n39, q41, q42, d44, w45, n59, n60, n61, d68, w69, n85, n86, n87, n88, H72, H73, H74, H75, d90, w91, e76, e77, e78, e79, e80, e81, e82, e83, e84, d95, d100, d101, nm, seval] <;> rfl) | rfl⟩
         simp only [d100, hs, reduceCtorEq] at h
         cases d102 : (r92)
         ·simp only [d102, hs, reduceCtorEq] at h
          replace h := kB70 _ _ h
          try dsimp only at h
          try simp only [hs] at h
          replace h := kG47 _ h
          try dsimp only at h
          try simp only [hs] at h
          simp only [vz, tyf, d23, (ix24 o28), g33, n39, q41, q42, d44, (ix40 o46), w45, g48, n59, n60, n61, d68, w69, g71, n85, n86, n87, n88, H72, H73, H74, H75, d90, w91, e76, e77, e78, e79, e80, e81, e82, e83, e84, d95, d100, d102, nm, seval]
          refine opd_ret (x := (.lit (.int .i64 2))) (by first | (simp only [Tryz.results68, resV, resL, resV1, tgt_ptr, tgt_tp, uw, cr, tyf, d23, (ix24 o28), g33, n39, q41, q42, d44, (ix40 o46), w45, g48, n59, n60, n61, d68, w69, g71, n85, n86, n87, n88, H72, H73, H74, H75, d90, w91, e76, e77, e78, e79, e80, e81, e82, e83, e84, d95, d100, d102, nm, seval] <;> rfl) | rfl) ?_
          cases g103 : (roomOk 8 (List.length (c32_9 ++ [2])))
          ·simp only [g103, hs, reduceCtorEq] at h
           exact absurd h kN32
          simp only [g103, hs, reduceCtorEq] at h
          simp only [vz, tyf, d23, (ix24 o28), g33, n39, q41, q42, d44, (ix40 o46), w45, g48, n59, n60, n61, d68, w69, g71, n85, n86, n87, n88, H72, H73, H74, H75, d90, w91, d95, d100, d102, e35, e36, e37, e38, g103, nm, seval]
          refine k_app (w := 1) (enc := eI) (xs := c32_9) (ys := ([2])) (el := el32_0) (el2 := (some 34)) (fun _ => rfl) lf54 ao54 Tryz.underlying54 (by first | rfl | assumption | (simp only [updH_apply, without_apply, et54, n39, q41, q42, n59, n60, n61, n85, n86, n87, n88, H72, H73, H74, H75, nm, seval] <;> rfl) | (simp only [updH_apply, without_apply, cellsL_cons, cellsL_nil, mV_app, mV_app0, tyf, d23, (ix24 o28), g33, n39, q41, q42, d44, (ix40 o46), w45, g48, n59, n60, n61, d68, w69, g71, n85, n86, n87, n88, H72, H73, H74, H75, d90, w91, d95, d100, d102, e35, e36, e37, e38, g103, nm, seval]; done)) (by first | rfl | assumption | (simp only [updH_apply, without_apply, et54, n39, q41, q42, n59, n60, n61, n85, n86, n87, n88, H72, H73, H74, H75, nm, seval] <;> rfl) | (simp only [updH_apply, without_apply, cellsL_cons, cellsL_nil, mV_app, mV_app0, tyf, d23, (ix24 o28), g33, n39, q41, q42, d44, (ix40 o46), w45, g48, n59, n60, n61, d68, w69, g71, n85, n86, n87, n88, H72, H73, H74, H75, d90, w91, d95, d100, d102, e35, e36, e37, e38, g103, nm, seval]; done)) (Nat.zero_lt_succ _) g103 ?_
          simp only [vz, tyf, d23, (ix24 o28), g33, n39, q41, q42, d44, (ix40 o46), w45, g48, n59, n60, n61, d68, w69, g71, n85, n86, n87, n88, H72, H73, H74, H75, d90, w91, d95, d100, d102, e35, e36, e37, e38, g103, nm, seval]
          exact ⟨List.length p32, Nat.lt_succ_self _, by rw [hI32]; refine ⟨p32, c32_28 + 1, (c32_9 ++ [2]), .ref (nx32 + 9) 0 (List.length (c32_9 ++ [2])) 1 (List.length (c32_9 ++ [2])), rfl, Int.le_trans hi32 (Int.le_add_one (Int.le_refl _)), drop_next hi32 hp32, rfl, (show 25 ≤ nx70 + 50 by omega), ?_, e35, e36, ?_, ?_, Or.inl ⟨nx32 + 9, (sameEl el32_0 34), rfl, (by first | omega | (simp only [nm, seval]; omega)), (by first | omega | (intro hh; simp only [n39, q41, q42, n59, n60, n61, n85, n86, n87, n88, reduceCtorEq] at hh)), ?_⟩, h⟩ <;> first | (simp only [ua, d23, n39, q41, q42, d44, w45, n59, n60, n61, d68, w69, n85, n86, n87, n88, H72, H73, H74, H75, d90, w91, d95, d100, d102, e35, e36, e37, e38, nm, seval] <;> rfl) | rfl⟩
         simp only [d102, hs, reduceCtorEq] at h
         simp only [vz, tyf, d23, (ix24 o28), g33, n39, q41, q42, d44, (ix40 o46), w45, g48, n59, n60, n61, d68, w69, g71, n85, n86, n87, n88, H72, H73, H74, H75, d90, w91, e76, e77, e78, e79, e80, e81, e82, e83, e84, d95, d100, d102, nm, seval]
         exact ⟨p70, Nat.lt_succ_self _, by rw [hI70]; refine ⟨p70, c70_33 + 1, true, true, IntKind.i64.wrap ((IntKind.i64.wrap (r29.SightStreet.Eye.Low + c47_20)) * (IntKind.i64.wrap (r29.SightStreet.Light.Low + c70_33))), rfl, cnt_lo hi70, cnt_next hp70, rfl, (show nx47 + 14 ≤ nx70 + 45 by omega), ?_, ?_, ?_, ?_, e76, e77, e78, e79, e80, e81, ?_, ?_, ?_, h⟩ <;> first | (simp only [ua, d23, n39, q41, q42, d44, w45, n59, n60, n61, d68, w69, n85, n86, n87, n88, H72, H73, H74, H75, d90, w91, e76, e77, e78, e79, e80, e81, e82, e83, e84, d95, d100, d102, nm, seval] <;> rfl) | rfl⟩
    ·cases p32 with
     | nil =>
      have d104 : (decide (c32_28 < (List.length r29.board.Letters : Int))) = false := not_lt_of_drop hi32 hp32
      simp only [g_sight_Letters_l0, hs, reduceCtorEq] at h
      replace h := kG32 _ h
      try dsimp only at h
      try simp only [hs] at h
      simp only [vz, tyf, d23, (ix24 o28), g33, n39, e35, e36, e37, e38, H34, d104, nm, seval]
      refine opd_ret (x := (.tup [.lit (.slice none 0 0), .lit (.int .i64 0)])) (by first | (simp only [Tryz.results28, resV, resL, resV1, tgt_ptr, tgt_tp, uw, cr, tyf, d23, (ix24 o28), g33, n39, e35, e36, e37, e38, H34, d104, nm, seval] <;> rfl) | rfl) ?_
      obtain rfl := kF _ h
      refine rr_tree ?_ ?_
      ·simp only [tre, tytre, Bool.and_self]
      ·first | (simp only [outV, uw, showV_ref, cr, tyf, nrm, tynrm, d23, (ix24 o28), g33, n39, e35, e36, e37, e38, H34, d104, nm, seval] <;> rfl) | rfl
     | cons e32 p32 =>
      have d105 : (decide (c32_28 < (List.length r29.board.Letters : Int))) = true := lt_of_drop hi32 hp32
      have o107 := getI_of_drop hi32 hp32
      have w106 := wrap_next hi32 hp32 g33
      simp only [g_sight_Letters_l0, hs, reduceCtorEq] at h
      simp only [vz, tyf, d23, (ix24 o28), g33, n39, e35, e36, e37, e38, H34, d105, (ix40 o107), w106, nm, seval]
      refine kopen ?_
      rw [openK_eq]
      refine VOpen.run mixed Tryz.call68 Tryz.func68 rfl (by simp [Tryz.ntmps68]; kernel_rfl) ?_
      simp only [vz, tyf, d23, (ix24 o28), g33, n39, H34, d105, (ix40 o107), w106, nm, seval]
      refine cwp_scope mixed (by kernel_rfl) ?_
      cases g109 : (boundOk (IntKind.i64.wrap ((IntKind.i64.wrap (r29.SightStreet.Eye.High - r29.SightStreet.Eye.Low)) + 1)))
      ·simp only [g109, hs, reduceCtorEq] at h
       exact absurd h kN32
      simp only [g109, hs, reduceCtorEq] at h
      simp only [vz, tyf, d23, (ix24 o28), g33, n39, H34, d105, (ix40 o107), w106, g109, nm, seval]
      obtain ⟨K108, h, kR108, kG108, kB108, kN108⟩ := lbind_intro h kN32
      obtain ⟨f108, hf108, h⟩ := call5 h
      obtain ⟨I108, hI108⟩ : ∃ I : Nat → St → Prop, I = (fun m st => ∃ (p108 : Nat) (c108_20 : Int) (c108_5 : Bool) (c108_6 : Bool) (c108_o0 : Int), p108 = m ∧ loOk c108_20 = true ∧ Int.toNat ((IntKind.i64.wrap ((IntKind.i64.wrap (r29.SightStreet.Eye.High - r29.SightStreet.Eye.Low)) + 1)) - c108_20) = p108 ∧ st.df = [] ∧ nx32 + 26 ≤ st.nx ∧ st.H 17 = some (.cells (some 97) (cGsightview r29)) ∧ st.H (nx32 + 2) = some (.cells (some 3) ([.lit (.int .i64 c32_28)])) ∧ st.H (nx32 + 11) = some (.cells (some 97) ((cGSightStreet r29.SightStreet) ++ (cGSightPlace r29.SightPlace) ++ (cGSightBoard r29.board) ++ [.lit (.int .i64 c108_o0)])) ∧ st.tm 1 = .fn (.func 69) [] [.ptr (nx32 + 2) 0] ∧ st.tm 2 = .ptr (nx32 + 11) 0 ∧ st.tm 19 = .lit (.int .i64 (IntKind.i64.wrap ((IntKind.i64.wrap (r29.SightStreet.Eye.High - r29.SightStreet.Eye.Low)) + 1))) ∧ st.tm 5 = .lit (.bool c108_5) ∧ st.tm 6 = .lit (.bool c108_6) ∧ st.tm 20 = .lit (.int .i64 c108_20) ∧ K108 (f108 p108 c108_20 c108_5 c108_6 c108_o0)) := ⟨_, rfl⟩
      refine loopK mixed (by kernel_rfl) I108 (Int.toNat ((IntKind.i64.wrap ((IntKind.i64.wrap (r29.SightStreet.Eye.High - r29.SightStreet.Eye.Low)) + 1)) - 0)) (by rw [hI108]; refine ⟨Int.toNat ((IntKind.i64.wrap ((IntKind.i64.wrap (r29.SightStreet.Eye.High - r29.SightStreet.Eye.Low)) + 1)) - 0), 0, true, false, r29.power, rfl, (by rfl), rfl, rfl, (show nx32 + 26 ≤ nx32 + 26 by omega), ?_, ?_, ?_, ?_, ?_, ?_, ?_, ?_, ?_, h⟩ <;> first | (simp only [ua, d23, n39, H34, d105, w106, nm, seval] <;> rfl) | rfl) ?_
      rintro m ⟨tm, H, nx108, df⟩ hinv
      rw [hI108] at hinv
      obtain ⟨p108, c108_20, c108_5, c108_6, c108_o0, rfl, hi108, hp108, hdf, hn108, H110, H111, H112, e113, e114, e115, e116, e117, e118, h⟩ := hinv
      simp only at hdf hn108 H110 H111 H112 e113 e114 e115 e116 e117 e118
      have n119 := base_ne0 (m := 25) (b := nx108) (by omega)
      have n120 := base_ne (a := nx32) (m := 26) (b := nx108) (by omega)
      subst hdf hf108
      cases p108 with
      | zero =>
       have d121 : (decide (c108_20 < (IntKind.i64.wrap ((IntKind.i64.wrap (r29.SightStreet.Eye.High - r29.SightStreet.Eye.Low)) + 1)))) = false := cnt_not_lt hp108
       simp only [g_sight_Letters_l1, hs, reduceCtorEq] at h
       replace h := kG108 _ h
       try dsimp only at h
       try simp only [hs] at h
       cases d122 : (c108_5)
       ·simp only [d122, hs, reduceCtorEq] at h
        cases d123 : (c108_6)
        ·simp only [d123, hs, reduceCtorEq] at h
         simp only [vz, tyf, d23, (ix24 o28), g33, n39, d105, (ix40 o107), w106, g109, n119, n120, e113, e114, e115, e116, e117, e118, H110, H111, H112, d121, d122, d123, nm, seval]
         refine opd_ret (x := (.lit (.int .i64 1))) (by first | (simp only [Tryz.results68, resV, resL, resV1, tgt_ptr, tgt_tp, uw, cr, tyf, d23, (ix24 o28), g33, n39, d105, (ix40 o107), w106, g109, n119, n120, e113, e114, e115, e116, e117, e118, H110, H111, H112, d121, d122, d123, nm, seval] <;> rfl) | rfl) ?_
         cases g124 : (roomOk 8 (List.length (([] : List Int) ++ [1])))
         ·simp only [g124, hs, reduceCtorEq] at h
          exact absurd h kN32
         simp only [g124, hs, reduceCtorEq] at h
         simp only [vz, tyf, d23, (ix24 o28), g33, n39, d105, (ix40 o107), w106, g109, n119, n120, H110, H111, H112, d121, d122, d123, e35, e36, e37, e38, g124, nm, seval]
         refine k_appN (w := 1) (enc := eI) (ys := ([1])) (el2 := (some 34)) (fun _ => rfl) lf54 ao54 Tryz.underlying54 (by first | rfl | assumption | (simp only [updH_apply, without_apply, et54, n39, n119, n120, H110, H111, H112, nm, seval] <;> rfl) | (simp only [updH_apply, without_apply, cellsL_cons, cellsL_nil, mV_app, mV_app0, tyf, d23, (ix24 o28), g33, n39, d105, (ix40 o107), w106, g109, n119, n120, H110, H111, H112, d121, d122, d123, e35, e36, e37, e38, g124, nm, seval]; done)) (Nat.zero_lt_succ _) g124 ?_
         simp only [vz, tyf, d23, (ix24 o28), g33, n39, d105, (ix40 o107), w106, g109, n119, n120, H110, H111, H112, d121, d122, d123, e35, e36, e37, e38, g124, nm, seval]
         exact ⟨List.length p32, Nat.lt_succ_self _, by rw [hI32]; refine ⟨p32, c32_28 + 1, (([] : List Int) ++ [1]), .ref (nx32 + 9) 0 (List.length (([] : List Int) ++ [1])) 1 (List.length (([] : List Int) ++ [1])), rfl, Int.le_trans hi32 (Int.le_add_one (Int.le_refl _)), drop_next hi32 hp32, rfl, (show 25 ≤ nx108 + 8 by omega), ?_, e35, e36, ?_, ?_, Or.inl ⟨nx32 + 9, (some 34), rfl, (by first | omega | (simp only [nm, seval]; omega)), (by first | omega | (intro hh; simp only [n39, n119, n120, reduceCtorEq] at hh)), ?_⟩, h⟩ <;> first | (simp only [ua, d23, n39, d105, w106, n119, n120, H110, H111, H112, d121, d122, d123, e35, e36, e37, e38, nm, seval] <;> rfl) | rfl⟩
        simp only [d123, hs, reduceCtorEq] at h
        simp only [vz, tyf, d23, (ix24 o28), g33, n39, d105, (ix40 o107), w106, g109, n119, n120, e113, e114, e115, e116, e117, e118, H110, H111, H112, d121, d122, d123, nm, seval]
        refine opd_ret (x := (.lit (.int .i64 2))) (by first | (simp only [Tryz.results68, resV, resL, resV1, tgt_ptr, tgt_tp, uw, cr, tyf, d23, (ix24 o28), g33, n39, d105, (ix40 o107), w106, g109, n119, n120, e113, e114, e115, e116, e117, e118, H110, H111, H112, d121, d122, d123, nm, seval] <;> rfl) | rfl) ?_
        cases g125 : (roomOk 8 (List.length (([] : List Int) ++ [2])))
        ·simp only [g125, hs, reduceCtorEq] at h
         exact absurd h kN32
        simp only [g125, hs, reduceCtorEq] at h
        simp only [vz, tyf, d23, (ix24 o28), g33, n39, d105, (ix40 o107), w106, g109, n119, n120, H110, H111, H112, d121, d122, d123, e35, e36, e37, e38, g125, nm, seval]
        refine k_appN (w := 1) (enc := eI) (ys := ([2])) (el2 := (some 34)) (fun _ => rfl) lf54 ao54 Tryz.underlying54 (by first | rfl | assumption | (simp only [updH_apply, without_apply, et54, n39, n119, n120, H110, H111, H112, nm, seval] <;> rfl) | (simp only [updH_apply, without_apply, cellsL_cons, cellsL_nil, mV_app, mV_app0, tyf, d23, (ix24 o28), g33, n39, d105, (ix40 o107), w106, g109, n119, n120, H110, H111, H112, d121, d122, d123, e35, e36, e37, e38, g125, nm, seval]; done)) (Nat.zero_lt_succ _) g125 ?_
        simp only [vz, tyf, d23, (ix24 o28), g33, n39, d105, (ix40 o107), w106, g109, n119, n120, H110, H111, H112, d121, d122, d123, e35, e36, e37, e38, g125, nm, seval]
        exact ⟨List.length p32, Nat.lt_succ_self _, by rw [hI32]; refine ⟨p32, c32_28 + 1, (([] : List Int) ++ [2]), .ref (nx32 + 9) 0 (List.length (([] : List Int) ++ [2])) 1 (List.length (([] : List Int) ++ [2])), rfl, Int.le_trans hi32 (Int.le_add_one (Int.le_refl _)), drop_next hi32 hp32, rfl, (show 25 ≤ nx108 + 8 by omega), ?_, e35, e36, ?_, ?_, Or.inl ⟨nx32 + 9, (some 34), rfl, (by first | omega | (simp only [nm, seval]; omega)), (by first | omega | (intro hh; simp only [n39, n119, n120, reduceCtorEq] at hh)), ?_⟩, h⟩ <;> first | (simp only [ua, d23, n39, d105, w106, n119, n120, H110, H111, H112, d121, d122, d123, e35, e36, e37, e38, nm, seval] <;> rfl) | rfl⟩
       simp only [d122, hs, reduceCtorEq] at h
       simp only [vz, tyf, d23, (ix24 o28), g33, n39, d105, (ix40 o107), w106, g109, n119, n120, e113, e114, e115, e116, e117, e118, H110, H111, H112, d121, d122, nm, seval]
       refine opd_ret (x := (.lit (.int .i64 3))) (by first | (simp only [Tryz.results68, resV, resL, resV1, tgt_ptr, tgt_tp, uw, cr, tyf, d23, (ix24 o28), g33, n39, d105, (ix40 o107), w106, g109, n119, n120, e113, e114, e115, e116, e117, e118, H110, H111, H112, d121, d122, nm, seval] <;> rfl) | rfl) ?_
       cases g126 : (roomOk 8 (List.length (([] : List Int) ++ [3])))
       ·simp only [g126, hs, reduceCtorEq] at h
        exact absurd h kN32
       simp only [g126, hs, reduceCtorEq] at h
       simp only [vz, tyf, d23, (ix24 o28), g33, n39, d105, (ix40 o107), w106, g109, n119, n120, H110, H111, H112, d121, d122, e35, e36, e37, e38, g126, nm, seval]
       refine k_appN (w := 1) (enc := eI) (ys := ([3])) (el2 := (some 34)) (fun _ => rfl) lf54 ao54 Tryz.underlying54 (by first | rfl | assumption | (simp only [updH_apply, without_apply, et54, n39, n119, n120, H110, H111, H112, nm, seval] <;> rfl) | (simp only [updH_apply, without_apply, cellsL_cons, cellsL_nil, mV_app, mV_app0, tyf, d23, (ix24 o28), g33, n39, d105, (ix40 o107), w106, g109, n119, n120, H110, H111, H112, d121, d122, e35, e36, e37, e38, g126, nm, seval]; done)) (Nat.zero_lt_succ _) g126 ?_
       simp only [vz, tyf, d23, (ix24 o28), g33, n39, d105, (ix40 o107), w106, g109, n119, n120, H110, H111, H112, d121, d122, e35, e36, e37, e38, g126, nm, seval]
       exact ⟨List.length p32, Nat.lt_succ_self _, by rw [hI32]; refine ⟨p32, c32_28 + 1, (([] : List Int) ++ [3]), .ref (nx32 + 9) 0 (List.length (([] : List Int) ++ [3])) 1 (List.length (([] : List Int) ++ [3])), rfl, Int.le_trans hi32 (Int.le_add_one (Int.le_refl _)), drop_next hi32 hp32, rfl, (show 25 ≤ nx108 + 6 by omega), ?_, e35, e36, ?_, ?_, Or.inl ⟨nx32 + 9, (some 34), rfl, (by first | omega | (simp only [nm, seval]; omega)), (by first | omega | (intro hh; simp only [n39, n119, n120, reduceCtorEq] at hh)), ?_⟩, h⟩ <;> first | (simp only [ua, d23, n39, d105, w106, n119, n120, H110, H111, H112, d121, d122, e35, e36, e37, e38, nm, seval] <;> rfl) | rfl⟩
      | succ p108 =>
       have d127 : (decide (c108_20 < (IntKind.i64.wrap ((IntKind.i64.wrap (r29.SightStreet.Eye.High - r29.SightStreet.Eye.Low)) + 1)))) = true := cnt_lt hp108
       have w128 := cnt_wrap hi108 hp108 g109
       simp only [g_sight_Letters_l1, hs, reduceCtorEq] at h
       cases g130 : (boundOk (IntKind.i64.wrap ((IntKind.i64.wrap (r29.SightStreet.Light.High - r29.SightStreet.Light.Low)) + 1)))
       ·simp only [g130, hs, reduceCtorEq] at h
        exact absurd h kN108
       simp only [g130, hs, reduceCtorEq] at h
       simp only [vz, tyf, d23, (ix24 o28), g33, n39, d105, (ix40 o107), w106, g109, n119, n120, e113, e114, e115, e116, e117, e118, H110, H111, H112, d127, w128, g130, nm, seval]
       obtain ⟨K129, h, kR129, kG129, kB129, kN129⟩ := lbind_intro h kN108
       obtain ⟨f129, hf129, h⟩ := call5 h
       obtain ⟨I129, hI129⟩ : ∃ I : Nat → St → Prop, I = (fun m st => ∃ (p129 : Nat) (c129_33 : Int) (c129_5 : Bool) (c129_6 : Bool) (c129_o0 : Int), p129 = m ∧ loOk c129_33 = true ∧ Int.toNat ((IntKind.i64.wrap ((IntKind.i64.wrap (r29.SightStreet.Light.High - r29.SightStreet.Light.Low)) + 1)) - c129_33) = p129 ∧ st.df = [] ∧ nx108 + 14 ≤ st.nx ∧ st.H 17 = some (.cells (some 97) (cGsightview r29)) ∧ st.H (nx32 + 2) = some (.cells (some 3) ([.lit (.int .i64 c32_28)])) ∧ st.H (nx32 + 11) = some (.cells (some 97) ((cGSightStreet r29.SightStreet) ++ (cGSightPlace r29.SightPlace) ++ (cGSightBoard r29.board) ++ [.lit (.int .i64 c129_o0)])) ∧ st.tm 1 = .fn (.func 69) [] [.ptr (nx32 + 2) 0] ∧ st.tm 2 = .ptr (nx32 + 11) 0 ∧ st.tm 7 = .lit (.int .i64 c108_20) ∧ st.tm 19 = .lit (.int .i64 (IntKind.i64.wrap ((IntKind.i64.wrap (r29.SightStreet.Eye.High - r29.SightStreet.Eye.Low)) + 1))) ∧ st.tm 20 = .lit (.int .i64 c108_20) ∧ st.tm 32 = .lit (.int .i64 (IntKind.i64.wrap ((IntKind.i64.wrap (r29.SightStreet.Light.High - r29.SightStreet.Light.Low)) + 1))) ∧ st.tm 5 = .lit (.bool c129_5) ∧ st.tm 6 = .lit (.bool c129_6) ∧ st.tm 33 = .lit (.int .i64 c129_33) ∧ K129 (f129 p129 c129_33 c129_5 c129_6 c129_o0)) := ⟨_, rfl⟩
       refine loopK mixed (by kernel_rfl) I129 (Int.toNat ((IntKind.i64.wrap ((IntKind.i64.wrap (r29.SightStreet.Light.High - r29.SightStreet.Light.Low)) + 1)) - 0)) (by rw [hI129]; refine ⟨Int.toNat ((IntKind.i64.wrap ((IntKind.i64.wrap (r29.SightStreet.Light.High - r29.SightStreet.Light.Low)) + 1)) - 0), 0, c108_5, c108_6, c108_o0, rfl, (by rfl), rfl, rfl, (show nx108 + 14 ≤ nx108 + 14 by omega), ?_, ?_, ?_, e113, e114, ?_, e115, e118, ?_, e116, e117, ?_, h⟩ <;> first | (simp only [ua, d23, n39, d105, w106, n119, n120, e113, e114, e115, e116, e117, e118, H110, H111, H112, d127, w128, nm, seval] <;> rfl) | rfl) ?_
       rintro m ⟨tm, H, nx129, df⟩ hinv
       rw [hI129] at hinv
       obtain ⟨p129, c129_33, c129_5, c129_6, c129_o0, rfl, hi129, hp129, hdf, hn129, H131, H132, H133, e134, e135, e136, e137, e138, e139, e140, e141, e142, h⟩ := hinv
       simp only at hdf hn129 H131 H132 H133 e134 e135 e136 e137 e138 e139 e140 e141 e142
       have n143 := base_ne0 (m := 25) (b := nx129) (by omega)
       have n144 := base_ne (a := nx32) (m := 26) (b := nx129) (by omega)
       have n145 := base_ne (a := nx108) (m := 14) (b := nx129) (by omega)
       subst hdf hf129
       cases p129 with
       | zero =>
        have d146 : (decide (c129_33 < (IntKind.i64.wrap ((IntKind.i64.wrap (r29.SightStreet.Light.High - r29.SightStreet.Light.Low)) + 1)))) = false := cnt_not_lt hp129
        simp only [g_sight_Letters_l2, hs, reduceCtorEq] at h
        replace h := kG129 _ h
        try dsimp only at h
        try simp only [hs] at h
        simp only [vz, tyf, d23, (ix24 o28), g33, n39, d105, (ix40 o107), w106, g109, n119, n120, d127, w128, g130, n143, n144, n145, e134, e135, e136, e137, e138, e139, e140, e141, e142, H131, H132, H133, d146, nm, seval]
        exact ⟨p108, Nat.lt_succ_self _, by rw [hI108]; refine ⟨p108, c108_20 + 1, c129_5, c129_6, c129_o0, rfl, cnt_lo hi108, cnt_next hp108, rfl, (show nx32 + 26 ≤ nx129 + 3 by omega), ?_, ?_, ?_, e134, e135, e137, e140, e141, ?_, h⟩ <;> first | (simp only [ua, d23, n39, d105, w106, n119, n120, d127, w128, n143, n144, n145, e134, e135, e136, e137, e138, e139, e140, e141, e142, H131, H132, H133, d146, nm, seval] <;> rfl) | rfl⟩
       | succ p129 =>
        have d147 : (decide (c129_33 < (IntKind.i64.wrap ((IntKind.i64.wrap (r29.SightStreet.Light.High - r29.SightStreet.Light.Low)) + 1)))) = true := cnt_lt hp129
        have w148 := cnt_wrap hi129 hp129 g130
        simp only [g_sight_Letters_l2, hs, reduceCtorEq] at h
        simp only [vz, tyf, d23, (ix24 o28), g33, n39, d105, (ix40 o107), w106, g109, n119, n120, d127, w128, g130, n143, n144, n145, e134, e135, e136, e137, e138, e139, e140, e141, e142, H131, H132, H133, d147, w148, nm, seval]
        refine kopen ?_
        rw [openK_eq]
        refine VOpen.run mixed Tryz.call69 Tryz.func69 rfl (by simp [Tryz.ntmps69]; kernel_rfl) ?_
        cases o150 : (g_sight_view_isLegible (Gsightview.mk r29.SightStreet r29.SightPlace r29.board (IntKind.i64.wrap ((IntKind.i64.wrap (r29.SightStreet.Eye.Low + c108_20)) * (IntKind.i64.wrap (r29.SightStreet.Light.Low + c129_33))))) c32_28) with
        | none =>
         simp only [o150, hs, reduceCtorEq] at h
         exact absurd h kN129
        | some r149 =>
         simp only [o150, hs, reduceCtorEq] at h
         simp only [vz, tyf, d23, (ix24 o28), g33, n39, d105, (ix40 o107), w106, g109, n119, n120, d127, w128, g130, n143, n144, n145, H131, H132, H133, d147, w148, nm, seval]
         refine ktree (args0 := [.agg (cGsightview (Gsightview.mk r29.SightStreet r29.SightPlace r29.board (IntKind.i64.wrap ((IntKind.i64.wrap (r29.SightStreet.Eye.Low + c108_20)) * (IntKind.i64.wrap (r29.SightStreet.Light.Low + c129_33)))))), .lit (.int .i64 c32_28)]) (by first | (simp only [nrm, tynrm] <;> rfl) | rfl) (by simp only [tre, tytre, Bool.and_self]) (g_sight_view_isLegible_ok _ _ _ o150) ?_
         refine fin_cut (fun tm => tm 6 = .lit (.bool r149) ∧ True) (by refine ⟨?_, trivial⟩ <;> first | (simp only [ua, d23, n39, d105, w106, n119, n120, d127, w128, n143, n144, n145, H131, H132, H133, d147, w148, nm, seval] <;> rfl) | rfl) ?_
         rintro tm ⟨e151, _⟩
         simp only [vz, tyf, d23, (ix24 o28), g33, n39, d105, (ix40 o107), w106, g109, n119, n120, d127, w128, g130, n143, n144, n145, H131, H132, H133, d147, w148, e151, nm, seval]
         refine opd_ret (x := (.lit (.bool r149))) (by first | (simp only [Tryz.results69, resV, resL, resV1, tgt_ptr, tgt_tp, uw, cr, tyf, d23, (ix24 o28), g33, n39, d105, (ix40 o107), w106, g109, n119, n120, d127, w128, g130, n143, n144, n145, H131, H132, H133, d147, w148, e151, nm, seval] <;> rfl) | rfl) ?_
         cases d152 : (c129_5)
         ·simp only [d152, hs, reduceCtorEq] at h
          cases d153 : (c129_6)
          ·simp only [d153, hs, reduceCtorEq] at h
           cases d154 : (r149)
           ·simp only [d154, hs, reduceCtorEq] at h
            simp only [vz, tyf, d23, (ix24 o28), g33, n39, d105, (ix40 o107), w106, g109, n119, n120, d127, w128, g130, n143, n144, n145, H131, H132, H133, d147, w148, e134, e135, e136, e137, e138, e139, e140, e141, e142, d152, d153, d154, nm, seval]
            exact ⟨p129, Nat.lt_succ_self _, by rw [hI129]; refine ⟨p129, c129_33 + 1, false, false, IntKind.i64.wrap ((IntKind.i64.wrap (r29.SightStreet.Eye.Low + c108_20)) * (IntKind.i64.wrap (r29.SightStreet.Light.Low + c129_33))), rfl, cnt_lo hi129, cnt_next hp129, rfl, (show nx108 + 14 ≤ nx129 + 45 by omega), ?_, ?_, ?_, e134, e135, e136, e137, e138, e139, ?_, ?_, ?_, h⟩ <;> first | (simp only [ua, d23, n39, d105, w106, n119, n120, d127, w128, n143, n144, n145, H131, H132, H133, d147, w148, e134, e135, e136, e137, e138, e139, e140, e141, e142, d152, d153, d154, nm, seval] <;> rfl) | rfl⟩
           simp only [d154, hs, reduceCtorEq] at h
           replace h := kB129 _ _ h
           try dsimp only at h
           try simp only [hs] at h
           replace h := kG108 _ h
           try dsimp only at h
           try simp only [hs] at h
           simp only [vz, tyf, d23, (ix24 o28), g33, n39, d105, (ix40 o107), w106, g109, n119, n120, d127, w128, g130, n143, n144, n145, H131, H132, H133, d147, w148, e134, e135, e136, e137, e138, e139, e140, e141, e142, d152, d153, d154, nm, seval]
           refine opd_ret (x := (.lit (.int .i64 2))) (by first | (simp only [Tryz.results68, resV, resL, resV1, tgt_ptr, tgt_tp, uw, cr, tyf, d23, (ix24 o28), g33, n39, d105, (ix40 o107), w106, g109, n119, n120, d127, w128, g130, n143, n144, n145, H131, H132, H133, d147, w148, e134, e135, e136, e137, e138, e139, e140, e141, e142, d152, d153, d154, nm, seval] <;> rfl) | rfl) ?_
           cases g155 : (roomOk 8 (List.length (([] : List Int) ++ [2])))
           ·simp only [g155, hs, reduceCtorEq] at h
            exact absurd h kN32
           simp only [g155, hs, reduceCtorEq] at h
           simp only [vz, tyf, d23, (ix24 o28), g33, n39, d105, (ix40 o107), w106, g109, n119, n120, d127, w128, g130, n143, n144, n145, H131, H132, H133, d147, w148, d152, d153, d154, e35, e36, e37, e38, g155, nm, seval]
           refine k_appN (w := 1) (enc := eI) (ys := ([2])) (el2 := (some 34)) (fun _ => rfl) lf54 ao54 Tryz.underlying54 (by first | rfl | assumption | (simp only [updH_apply, without_apply, et54, n39, n119, n120, n143, n144, n145, H131, H132, H133, nm, seval] <;> rfl) | (simp only [updH_apply, without_apply, cellsL_cons, cellsL_nil, mV_app, mV_app0, tyf, d23, (ix24 o28), g33, n39, d105, (ix40 o107), w106, g109, n119, n120, d127, w128, g130, n143, n144, n145, H131, H132, H133, d147, w148, d152, d153, d154, e35, e36, e37, e38, g155, nm, seval]; done)) (Nat.zero_lt_succ _) g155 ?_
           simp only [vz, tyf, d23, (ix24 o28), g33, n39, d105, (ix40 o107), w106, g109, n119, n120, d127, w128, g130, n143, n144, n145, H131, H132, H133, d147, w148, d152, d153, d154, e35, e36, e37, e38, g155, nm, seval]
           exact ⟨List.length p32, Nat.lt_succ_self _, by rw [hI32]; refine ⟨p32, c32_28 + 1, (([] : List Int) ++ [2]), .ref (nx32 + 9) 0 (List.length (([] : List Int) ++ [2])) 1 (List.length (([] : List Int) ++ [2])), rfl, Int.le_trans hi32 (Int.le_add_one (Int.le_refl _)), drop_next hi32 hp32, rfl, (show 25 ≤ nx129 + 50 by omega), ?_, e35, e36, ?_, ?_, Or.inl ⟨nx32 + 9, (some 34), rfl, (by first | omega | (simp only [nm, seval]; omega)), (by first | omega | (intro hh; simp only [n39, n119, n120, n143, n144, n145, reduceCtorEq] at hh)), ?_⟩, h⟩ <;> first | (simp only [ua, d23, n39, d105, w106, n119, n120, d127, w128, n143, n144, n145, H131, H132, H133, d147, w148, d152, d153, d154, e35, e36, e37, e38, nm, seval] <;> rfl) | rfl⟩
          simp only [d153, hs, reduceCtorEq] at h
          replace h := kB129 _ _ h
          try dsimp only at h
          try simp only [hs] at h
          replace h := kG108 _ h
          try dsimp only at h
          try simp only [hs] at h
          simp only [vz, tyf, d23, (ix24 o28), g33, n39, d105, (ix40 o107), w106, g109, n119, n120, d127, w128, g130, n143, n144, n145, H131, H132, H133, d147, w148, e134, e135, e136, e137, e138, e139, e140, e141, e142, d152, d153, nm, seval]
          refine opd_ret (x := (.lit (.int .i64 2))) (by first | (simp only [Tryz.results68, resV, resL, resV1, tgt_ptr, tgt_tp, uw, cr, tyf, d23, (ix24 o28), g33, n39, d105, (ix40 o107), w106, g109, n119, n120, d127, w128, g130, n143, n144, n145, H131, H132, H133, d147, w148, e134, e135, e136, e137, e138, e139, e140, e141, e142, d152, d153, nm, seval] <;> rfl) | rfl) ?_
          cases g156 : (roomOk 8 (List.length (([] : List Int) ++ [2])))
          ·simp only [g156, hs, reduceCtorEq] at h
           exact absurd h kN32
          simp only [g156, hs, reduceCtorEq] at h
          simp only [vz, tyf, d23, (ix24 o28), g33, n39, d105, (ix40 o107), w106, g109, n119, n120, d127, w128, g130, n143, n144, n145, H131, H132, H133, d147, w148, d152, d153, e35, e36, e37, e38, g156, nm, seval]
          refine k_appN (w := 1) (enc := eI) (ys := ([2])) (el2 := (some 34)) (fun _ => rfl) lf54 ao54 Tryz.underlying54 (by first | rfl | assumption | (simp only [updH_apply, without_apply, et54, n39, n119, n120, n143, n144, n145, H131, H132, H133, nm, seval] <;> rfl) | (simp only [updH_apply, without_apply, cellsL_cons, cellsL_nil, mV_app, mV_app0, tyf, d23, (ix24 o28), g33, n39, d105, (ix40 o107), w106, g109, n119, n120, d127, w128, g130, n143, n144, n145, H131, H132, H133, d147, w148, d152, d153, e35, e36, e37, e38, g156, nm, seval]; done)) (Nat.zero_lt_succ _) g156 ?_
          simp only [vz, tyf, d23, (ix24 o28), g33, n39, d105, (ix40 o107), w106, g109, n119, n120, d127, w128, g130, n143, n144, n145, H131, H132, H133, d147, w148, d152, d153, e35, e36, e37, e38, g156, nm, seval]
          exact ⟨List.length p32, Nat.lt_succ_self _, by rw [hI32]; refine ⟨p32, c32_28 + 1, (([] : List Int) ++ [2]), .ref (nx32 + 9) 0 (List.length (([] : List Int) ++ [2])) 1 (List.length (([] : List Int) ++ [2])), rfl, Int.le_trans hi32 (Int.le_add_one (Int.le_refl _)), drop_next hi32 hp32, rfl, (show 25 ≤ nx129 + 50 by omega), ?_, e35, e36, ?_, ?_, Or.inl ⟨nx32 + 9, (some 34), rfl, (by first | omega | (simp only [nm, seval]; omega)), (by first | omega | (intro hh; simp only [n39, n119, n120, n143, n144, n145, reduceCtorEq] at hh)), ?_⟩, h⟩ <;> first | (simp only [ua, d23, n39, d105, w106, n119, n120, d127, w128, n143, n144, n145, H131, H132, H133, d147, w148, d152, d153, e35, e36, e37, e38, nm, seval] <;> rfl) | rfl⟩
         simp only [d152, hs, reduceCtorEq] at h
         cases d157 : (c129_6)
         ·simp only [d157, hs, reduceCtorEq] at h
          cases d158 : (r149)
          ·simp only [d158, hs, reduceCtorEq] at h
           simp only [vz, tyf, d23, (ix24 o28), g33, n39, d105, (ix40 o107), w106, g109, n119, n120, d127, w128, g130, n143, n144, n145, H131, H132, H133, d147, w148, e134, e135, e136, e137, e138, e139, e140, e141, e142, d152, d157, d158, nm, seval]
           exact ⟨p129, Nat.lt_succ_self _, by rw [hI129]; refine ⟨p129, c129_33 + 1, false, false, IntKind.i64.wrap ((IntKind.i64.wrap (r29.SightStreet.Eye.Low + c108_20)) * (IntKind.i64.wrap (r29.SightStreet.Light.Low + c129_33))), rfl, cnt_lo hi129, cnt_next hp129, rfl, (show nx108 + 14 ≤ nx129 + 45 by omega), ?_, ?_, ?_, e134, e135, e136, e137, e138, e139, ?_, ?_, ?_, h⟩ <;> first | (simp only [ua, d23, n39, d105, w106, n119, n120, d127, w128, n143, n144, n145, H131, H132, H133, d147, w148, e134, e135, e136, e137, e138, e139, e140, e141, e142, d152, d157, d158, nm, seval] <;> rfl) | rfl⟩
          simp only [d158, hs, reduceCtorEq] at h
          simp only [vz, tyf, d23, (ix24 o28), g33, n39, d105, (ix40 o107), w106, g109, n119, n120, d127, w128, g130, n143, n144, n145, H131, H132, H133, d147, w148, e134, e135, e136, e137, e138, e139, e140, e141, e142, d152, d157, d158, nm, seval]
          exact ⟨p129, Nat.lt_succ_self _, by rw [hI129]; refine ⟨p129, c129_33 + 1, true, true, IntKind.i64.wrap ((IntKind.i64.wrap (r29.SightStreet.Eye.Low + c108_20)) * (IntKind.i64.wrap (r29.SightStreet.Light.Low + c129_33))), rfl, cnt_lo hi129, cnt_next hp129, rfl, (show nx108 + 14 ≤ nx129 + 45 by omega), ?_, ?_, ?_, e134, e135, e136, e137, e138, e139, ?_, ?_, ?_, h⟩ <;> first | (simp only [ua, d23, n39, d105, w106, n119, n120, d127, w128, n143, n144, n145, H131, H132, H133, d147, w148, e134, e135, e136, e137, e138, e139, e140, e141, e142, d152, d157, d158, nm, seval] <;> rfl) | rfl⟩
         simp only [d157, hs, reduceCtorEq] at h
         cases d159 : (r149)
         ·simp only [d159, hs, reduceCtorEq] at h
          replace h := kB129 _ _ h
          try dsimp only at h
          try simp only [hs] at h
          replace h := kG108 _ h
          try dsimp only at h
          try simp only [hs] at h
          simp only [vz, tyf, d23, (ix24 o28), g33, n39, d105, (ix40 o107), w106, g109, n119, n120, d127, w128, g130, n143, n144, n145, H131, H132, H133, d147, w148, e134, e135, e136, e137, e138, e139, e140, e141, e142, d152, d157, d159, nm, seval]
          refine opd_ret (x := (.lit (.int .i64 2))) (by first | (simp only [Tryz.results68, resV, resL, resV1, tgt_ptr, tgt_tp, uw, cr, tyf, d23, (ix24 o28), g33, n39, d105, (ix40 o107), w106, g109, n119, n120, d127, w128, g130, n143, n144, n145, H131, H132, H133, d147, w148, e134, e135, e136, e137, e138, e139, e140, e141, e142, d152, d157, d159, nm, seval] <;> rfl) | rfl) ?_
          cases g160 : (roomOk 8 (List.length (([] : List Int) ++ [2])))
          ·simp only [g160, hs, reduceCtorEq] at h
           exact absurd h kN32
          simp only [g160, hs, reduceCtorEq] at h
          simp only [vz, tyf, d23, (ix24 o28), g33, n39, d105, (ix40 o107), w106, g109, n119, n120, d127, w128, g130, n143, n144, n145, H131, H132, H133, d147, w148, d152, d157, d159, e35, e36, e37, e38, g160, nm, seval]
          refine k_appN (w := 1) (enc := eI) (ys := ([2])) (el2 := (some 34)) (fun _ => rfl) lf54 ao54 Tryz.underlying54 (by first | rfl | assumption | (simp only [updH_apply, without_apply, et54, n39, n119, n120, n143, n144, n145, H131, H132, H133, nm, seval] <;> rfl) | (simp only [updH_apply, without_apply, cellsL_cons, cellsL_nil, mV_app, mV_app0, tyf, d23, (ix24 o28), g33, n39, d105, (ix40 o107), w106, g109, n119, n120, d127, w128, g130, n143, n144, n145, H131, H132, H133, d147, w148, d152, d157, d159, e35, e36, e37, e38, g160, nm, seval]; done)) (Nat.zero_lt_succ _) g160 ?_
          simp only [vz, tyf, d23, (ix24 o28), g33, n39, d105, (ix40 o107), w106, g109, n119, n120, d127, w128, g130, n143, n144, n145, H131, H132, H133, d147, w148, d152, d157, d159, e35, e36, e37, e38, g160, nm, seval]
          exact ⟨List.length p32, Nat.lt_succ_self _, by rw [hI32]; refine ⟨p32, c32_28 + 1, (([] : List Int) ++ [2]), .ref (nx32 + 9) 0 (List.length (([] : List Int) ++ [2])) 1 (List.length (([] : List Int) ++ [2])), rfl, Int.le_trans hi32 (Int.le_add_one (Int.le_refl _)), drop_next hi32 hp32, rfl, (show 25 ≤ nx129 + 50 by omega), ?_, e35, e36, ?_, ?_, Or.inl ⟨nx32 + 9, (some 34), rfl, (by first | omega | (simp only [nm, seval]; omega)), (by first | omega | (intro hh; simp only [n39, n119, n120, n143, n144, n145, reduceCtorEq] at hh)), ?_⟩, h⟩ <;> first | (simp only [ua, d23, n39, d105, w106, n119, n120, d127, w128, n143, n144, n145, H131, H132, H133, d147, w148, d152, d157, d159, e35, e36, e37, e38, nm, seval] <;> rfl) | rfl⟩
         simp only [d159, hs, reduceCtorEq] at h
         simp only [vz, tyf, d23, (ix24 o28), g33, n39, d105, (ix40 o107), w106, g109, n119, n120, d127, w128, g130, n143, n144, n145, H131, H132, H133, d147, w148, e134, e135, e136, e137, e138, e139, e140, e141, e142, d152, d157, d159, nm, seval]
         exact ⟨p129, Nat.lt_succ_self _, by rw [hI129]; refine ⟨p129, c129_33 + 1, true, true, IntKind.i64.wrap ((IntKind.i64.wrap (r29.SightStreet.Eye.Low + c108_20)) * (IntKind.i64.wrap (r29.SightStreet.Light.Low + c129_33))), rfl, cnt_lo hi129, cnt_next hp129, rfl, (show nx108 + 14 ≤ nx129 + 45 by omega), ?_, ?_, ?_, e134, e135, e136, e137, e138, e139, ?_, ?_, ?_, h⟩ <;> first | (simp only [ua, d23, n39, d105, w106, n119, n120, d127, w128, n143, n144, n145, H131, H132, H133, d147, w148, e134, e135, e136, e137, e138, e139, e140, e141, e142, d152, d157, d159, nm, seval] <;> rfl) | rfl⟩
end Go.V
end
