/- Part of the proof of statements of YtbpeickbdiihcaaGreatDoor: a logic of values by content, the lifted functions, and what follows. -/
import Derived.Test.YtbpeickbdiihcaaGreatDoorPbf
import Derived.Test.YtbpeickbdiihcaaGreatDoorPbh
import Derived.Test.YtbpeickbdiihcaaGreatDoorPbi
import Derived.Test.YtbpeickbdiihcaaGreatDoorPbj
import Derived.Test.YtbpeickbdiihcaaGreatDoorPbl
set_option linter.unusedVariables false
set_option linter.unusedSimpArgs false
set_option linter.unusedSectionVars false
set_option linter.constructorNameAsVariable false
set_option linter.defProp false
set_option maxRecDepth 4000
set_option maxHeartbeats 4000000
section
namespace Go.V
open Go Go.Proofs
def g_sight_Melts_l2 (r3 : Gsightview) (c0_29 : Int) (c1_20 : Int) : Nat → Int → Bool → Bool → Int → Option (LOut (Int) (Bool × Bool × Int))
 | 0, c2_33, c2_5, c2_6, c2_o0 => some (.go (c2_5, c2_6, c2_o0))
 | k2 + 1, c2_33, c2_5, c2_6, c2_o0 => Option.bind (g_sight_view_isApart (Gsightview.mk r3.SightStreet r3.SightPlace r3.board (IntKind.i64.wrap ((IntKind.i64.wrap (r3.SightStreet.Eye.Low + c1_20)) * (IntKind.i64.wrap (r3.SightStreet.Light.Low + c2_33))))) c0_29) (fun r9 => cond (c2_5) (cond (c2_6) (cond (r9) (some (.brk 0 (false, true, IntKind.i64.wrap ((IntKind.i64.wrap (r3.SightStreet.Eye.Low + c1_20)) * (IntKind.i64.wrap (r3.SightStreet.Light.Low + c2_33)))))) (g_sight_Melts_l2 r3 c0_29 c1_20 k2 (c2_33 + 1) true true (IntKind.i64.wrap ((IntKind.i64.wrap (r3.SightStreet.Eye.Low + c1_20)) * (IntKind.i64.wrap (r3.SightStreet.Light.Low + c2_33)))))) (cond (r9) (g_sight_Melts_l2 r3 c0_29 c1_20 k2 (c2_33 + 1) false false (IntKind.i64.wrap ((IntKind.i64.wrap (r3.SightStreet.Eye.Low + c1_20)) * (IntKind.i64.wrap (r3.SightStreet.Light.Low + c2_33))))) (g_sight_Melts_l2 r3 c0_29 c1_20 k2 (c2_33 + 1) true true (IntKind.i64.wrap ((IntKind.i64.wrap (r3.SightStreet.Eye.Low + c1_20)) * (IntKind.i64.wrap (r3.SightStreet.Light.Low + c2_33))))))) (cond (c2_6) (some (.brk 0 (false, true, IntKind.i64.wrap ((IntKind.i64.wrap (r3.SightStreet.Eye.Low + c1_20)) * (IntKind.i64.wrap (r3.SightStreet.Light.Low + c2_33)))))) (cond (r9) (g_sight_Melts_l2 r3 c0_29 c1_20 k2 (c2_33 + 1) false false (IntKind.i64.wrap ((IntKind.i64.wrap (r3.SightStreet.Eye.Low + c1_20)) * (IntKind.i64.wrap (r3.SightStreet.Light.Low + c2_33))))) (some (.brk 0 (false, true, IntKind.i64.wrap ((IntKind.i64.wrap (r3.SightStreet.Eye.Low + c1_20)) * (IntKind.i64.wrap (r3.SightStreet.Light.Low + c2_33)))))))))
def g_sight_Melts_l1 (r3 : Gsightview) (c0_29 : Int) : Nat → Int → Bool → Bool → Int → Option (LOut (Int) (Bool × Bool × Int))
 | 0, c1_20, c1_5, c1_6, c1_o0 => some (.go (c1_5, c1_6, c1_o0))
 | k1 + 1, c1_20, c1_5, c1_6, c1_o0 => cond (boundOk (IntKind.i64.wrap ((IntKind.i64.wrap (r3.SightStreet.Light.High - r3.SightStreet.Light.Low)) + 1))) (lbind (g_sight_Melts_l2 r3 c0_29 c1_20 (Int.toNat ((IntKind.i64.wrap ((IntKind.i64.wrap (r3.SightStreet.Light.High - r3.SightStreet.Light.Low)) + 1)) - 0)) 0 c1_5 c1_6 c1_o0) (fun r11 => some (.ret r11)) (fun c10 => g_sight_Melts_l1 r3 c0_29 k1 (c1_20 + 1) c10.1 c10.2.1 c10.2.2) (fun _ c12 => some (.go (c12.1, c12.2.1, c12.2.2)))) none
def g_sight_Melts_l0 (r3 : Gsightview) : Nat → Int → (List Int) → Option (LOut ((List Int) × Int) ((List Int)))
 | 0, c0_29, c0_9 => some (.go c0_9)
 | k0 + 1, c0_29, c0_9 => cond (boundOk (IntKind.i64.wrap ((IntKind.i64.wrap (r3.SightStreet.Eye.High - r3.SightStreet.Eye.Low)) + 1))) (lbind (g_sight_Melts_l1 r3 c0_29 (Int.toNat ((IntKind.i64.wrap ((IntKind.i64.wrap (r3.SightStreet.Eye.High - r3.SightStreet.Eye.Low)) + 1)) - 0)) 0 true false r3.power) (fun r14 => cond (roomOk 8 (List.length (c0_9 ++ [r14]))) (g_sight_Melts_l0 r3 k0 (c0_29 + 1) (c0_9 ++ [r14])) none) (fun c13 => cond (c13.1) (cond (roomOk 8 (List.length (c0_9 ++ [3]))) (g_sight_Melts_l0 r3 k0 (c0_29 + 1) (c0_9 ++ [3])) none) (cond (c13.2.1) (cond (roomOk 8 (List.length (c0_9 ++ [2]))) (g_sight_Melts_l0 r3 k0 (c0_29 + 1) (c0_9 ++ [2])) none) (cond (roomOk 8 (List.length (c0_9 ++ [1]))) (g_sight_Melts_l0 r3 k0 (c0_29 + 1) (c0_9 ++ [1])) none))) (fun _ _ => none)) none
def g_sight_Melts (x0_s : GSightStreet) (x1_board : Int) (x2_from : GSightPlace) : Option ((List Int) × Int) := Option.bind (g_sight_isView x0_s x1_board x2_from) (fun r1 => cond (r1) (Option.bind (getI x0_s.Boards x1_board) (fun x2 => Option.bind (g_sight_atWorst x0_s x2 x2_from) (fun r3 => cond (boundOk (IntKind.i64.wrap ((List.length r3.board.Letters : Int) - 1))) (lbind (g_sight_Melts_l0 r3 (Int.toNat ((IntKind.i64.wrap ((List.length r3.board.Letters : Int) - 1)) - 0)) 0 ([] : List Int)) (fun r16 => some r16) (fun c15 => some (c15, 0)) (fun _ _ => none)) none))) (some (([] : List Int), 2)))
theorem g_sight_Melts_ok (x0_s : GSightStreet) (x1_board : Int) (x2_from : GSightPlace) (R : (List Int) × Int) (h : g_sight_Melts x0_s x1_board x2_from = some R) : VPure Tryz.prog G0 29 [.agg (cGSightStreet x0_s), .lit (.int .i64 x1_board), .agg (cGSightPlace x2_from)] (.tree (.tup [.sl (cellsL eI R.1) (List.length R.1) false, .lit (.int .i64 R.2)])) := by
 refine VPure.runR mixed Tryz.call29 Tryz.func29 rfl (by simp [Tryz.ntmps29]; kernel_rfl) ?_
 obtain ⟨KF, h, kF, kN⟩ := fun_intro h
 simp only [g_sight_Melts] at h
 cases o18 : (g_sight_isView x0_s x1_board x2_from) with
 | none =>
  simp only [o18, hs, reduceCtorEq] at h
  exact absurd h kN
 | some r17 =>
  simp only [o18, hs, reduceCtorEq] at h
  simp only [vz, tyf, nm, seval]
  refine ktree (args0 := [.agg (cGSightStreet x0_s), .lit (.int .i64 x1_board), .agg (cGSightPlace x2_from)]) (by first | (simp only [nrm, tynrm] <;> rfl) | rfl) (by simp only [tre, tytre, Bool.and_self]) (g_sight_isView_ok _ _ _ _ o18) ?_
  refine fin_cut (fun tm => tm 1 = .lit (.int .i64 x1_board) ∧ tm 3 = .ptr 0 0 ∧ tm 5 = .ptr 1 0 ∧ tm 14 = .lit (.bool r17) ∧ True) (by refine ⟨?_, ?_, ?_, ?_, trivial⟩ <;> first | (simp only [ua, nm, seval] <;> rfl) | rfl) ?_
  rintro tm ⟨e19, e20, e21, e22, _⟩
  cases d23 : (r17)
  ·simp only [d23, hs, reduceCtorEq] at h
   simp only [vz, tyf, e19, e20, e21, e22, d23, nm, seval]
   refine opd_ret (x := (.tup [.lit (.slice none 0 0), .lit (.int .i64 2)])) (by first | (simp only [Tryz.results29, resV, resL, resV1, tgt_ptr, tgt_tp, uw, cr, tyf, e19, e20, e21, e22, d23, nm, seval] <;> rfl) | rfl) ?_
   obtain rfl := kF _ h
   refine rr_tree ?_ ?_
   ·simp only [tre, tytre, Bool.and_self]
   ·first | (simp only [outV, uw, showV_ref, cr, tyf, nrm, tynrm, e19, e20, e21, e22, d23, nm, seval] <;> rfl) | rfl
  simp only [d23, hs, reduceCtorEq] at h
  simp only [vz, tyf, e19, e20, e21, e22, d23, nm, seval]
  refine cwp_drawTF (fun tm => tm 1 = .lit (.int .i64 x1_board) ∧ tm 3 = .ptr 0 0 ∧ tm 5 = .ptr 1 0 ∧ True) (by refine ⟨e19, e20, e21, trivial⟩ <;> first | (simp only [ua, e19, e20, e21, e22, d23, nm, seval] <;> rfl) | rfl) ?_
  rintro tm ⟨e24, e25, e26, _⟩
  cases o28 : (getI x0_s.Boards x1_board) with
  | none =>
   simp only [o28, hs, reduceCtorEq] at h
   exact absurd h kN
  | some x27 =>
   simp only [o28, hs, reduceCtorEq] at h
   cases o30 : (g_sight_atWorst x0_s x27 x2_from) with
   | none =>
    simp only [o30, hs, reduceCtorEq] at h
    exact absurd h kN
   | some r29 =>
    simp only [o30, hs, reduceCtorEq] at h
    simp only [vz, tyf, d23, e24, e25, e26, (ix24 o28), nm, seval]
    refine dktree (args0 := [.agg (cGSightStreet x0_s), .agg (cGSightBoard x27), .agg (cGSightPlace x2_from)]) (by first | (simp only [nrm, tynrm] <;> rfl) | rfl) (by simp only [tre, tytre, Bool.and_self]) (g_sight_atWorst_ok _ _ _ _ o30) ?_
    refine fin_cut (fun tm => tm 23 = .agg (cGsightview r29) ∧ True) (by refine ⟨?_, trivial⟩ <;> first | (simp only [ua, d23, e24, e25, e26, nm, seval] <;> rfl) | rfl) ?_
    rintro tm ⟨e31, _⟩
    simp only [vz, tyf, d23, (ix24 o28), e31, nm, seval]
    refine drawK_nil ⟨?_, ?_⟩
    ·simp only [traceR_cons, traceR_nil, hitK_quiet, hitK_nil, and_true, true_and]
     repeat' (first | exact trivial | refine And.intro ?_ ?_ | rw [hitK_quiet] | rw [hitK_cons] | exact Or.inl (by decide +kernel) | exact Or.inl (by dsimp only; decide +kernel) | (refine Or.inr ⟨?_, ?_⟩ <;> simp; done) | (refine Or.inr ⟨?_, ?_⟩ <;> simp <;> omega))
    cases g33 : (boundOk (IntKind.i64.wrap ((List.length r29.board.Letters : Int) - 1)))
    ·simp only [g33, hs, reduceCtorEq] at h
     exact absurd h kN
    simp only [g33, hs, reduceCtorEq] at h
    simp only [vz, tyf, d23, (ix24 o28), e31, g33, nm, seval]
    obtain ⟨K32, h, kR32, kG32, kB32, kN32⟩ := lbind_intro h kN
    obtain ⟨f32, hf32, h⟩ := call3 h
    obtain ⟨I32, hI32⟩ : ∃ I : Nat → St → Prop, I = (fun m st => ∃ (p32 : Nat) (c32_29 : Int) (c32_9 : List Int) (y32_0 : VV), p32 = m ∧ loOk c32_29 = true ∧ Int.toNat ((IntKind.i64.wrap ((List.length r29.board.Letters : Int) - 1)) - c32_29) = p32 ∧ st.df = [] ∧ 26 ≤ st.nx ∧ st.H 17 = some (.cells (some 97) (cGsightview r29)) ∧ st.tm 8 = .ptr 17 0 ∧ st.tm 28 = .lit (.int .i64 (IntKind.i64.wrap ((List.length r29.board.Letters : Int) - 1))) ∧ st.tm 9 = y32_0 ∧ st.tm 29 = .lit (.int .i64 c32_29) ∧ ((∃ (β : Nat) (el : Option TypeId), y32_0 = .ref β 0 (List.length c32_9) 1 (List.length c32_9) ∧ β < st.nx ∧ β ≠ 17 ∧ st.H β = some (.cells el (cellsL eI c32_9))) ∨ (y32_0 = .lit (.slice none 0 0) ∧ c32_9 = [])) ∧ K32 (f32 p32 c32_29 c32_9)) := ⟨_, rfl⟩
    refine loopK mixed (by kernel_rfl) I32 (Int.toNat ((IntKind.i64.wrap ((List.length r29.board.Letters : Int) - 1)) - 0)) (by rw [hI32]; refine ⟨Int.toNat ((IntKind.i64.wrap ((List.length r29.board.Letters : Int) - 1)) - 0), 0, ([] : List Int), .lit (.slice none 0 0), rfl, (by rfl), rfl, rfl, (show 26 ≤ 26 by omega), ?_, ?_, ?_, ?_, ?_, Or.inr ⟨rfl, rfl⟩, h⟩ <;> first | (simp only [ua, d23, e31, nm, seval] <;> rfl) | rfl) ?_
    rintro m ⟨tm, H, nx32, df⟩ hinv
    rw [hI32] at hinv
    obtain ⟨p32, c32_29, c32_9, y32_0, rfl, hi32, hp32, hdf, hn32, H34, e35, e36, e37, e38, ow32_0, h⟩ := hinv
    simp only at hdf hn32 H34 e35 e36 e37 e38 ow32_0
    have n39 := base_ne0 (m := 26) (b := nx32) (by omega)
    subst hdf hf32
    rcases ow32_0 with ⟨b32_0, el32_0, rfl, lq41, lq42, H40⟩ | ⟨rfl, rfl⟩
    ·have q41 := own_lt lq41
     have q42 := ne_f lq42
     cases p32 with
     | zero =>
      have d43 : (decide (c32_29 < (IntKind.i64.wrap ((List.length r29.board.Letters : Int) - 1)))) = false := cnt_not_lt hp32
      simp only [g_sight_Melts_l0, hs, reduceCtorEq] at h
      replace h := kG32 _ h
      try dsimp only at h
      try simp only [hs] at h
      simp only [vz, tyf, d23, (ix24 o28), g33, n39, e35, e36, e37, e38, H34, q41, H40, q42, d43, nm, seval]
      refine opd_ret (x := (.tup [.ref b32_0 0 (List.length c32_9) 1 (List.length c32_9), .lit (.int .i64 0)])) (by first | (simp only [Tryz.results29, resV, resL, resV1, tgt_ptr, tgt_tp, uw, cr, tyf, d23, (ix24 o28), g33, n39, e35, e36, e37, e38, H34, q41, H40, q42, d43, nm, seval] <;> rfl) | rfl) ?_
      obtain rfl := kF _ h
      refine rr_tree ?_ ?_
      ·simp only [tre, tytre, Bool.and_self]
      ·first | (simp only [outV, uw, showV_ref, cr, tyf, nrm, tynrm, d23, (ix24 o28), g33, n39, e35, e36, e37, e38, H34, q41, H40, q42, d43, nm, seval] <;> rfl) | rfl
     | succ p32 =>
      have d44 : (decide (c32_29 < (IntKind.i64.wrap ((List.length r29.board.Letters : Int) - 1)))) = true := cnt_lt hp32
      have w45 := cnt_wrap hi32 hp32 g33
      simp only [g_sight_Melts_l0, hs, reduceCtorEq] at h
      simp only [vz, tyf, d23, (ix24 o28), g33, n39, e35, e36, e37, e38, H34, q41, H40, q42, d44, w45, nm, seval]
      refine kopen ?_
      rw [openK_eq]
      refine VOpen.run mixed Tryz.call68 Tryz.func68 rfl (by simp [Tryz.ntmps68]; kernel_rfl) ?_
      simp only [vz, tyf, d23, (ix24 o28), g33, n39, H34, q41, H40, q42, d44, w45, nm, seval]
      refine cwp_scope mixed (by kernel_rfl) ?_
      cases g47 : (boundOk (IntKind.i64.wrap ((IntKind.i64.wrap (r29.SightStreet.Eye.High - r29.SightStreet.Eye.Low)) + 1)))
      ·simp only [g47, hs, reduceCtorEq] at h
       exact absurd h kN32
      simp only [g47, hs, reduceCtorEq] at h
      simp only [vz, tyf, d23, (ix24 o28), g33, n39, H34, q41, H40, q42, d44, w45, g47, nm, seval]
      obtain ⟨K46, h, kR46, kG46, kB46, kN46⟩ := lbind_intro h kN32
      obtain ⟨f46, hf46, h⟩ := call5 h
      obtain ⟨I46, hI46⟩ : ∃ I : Nat → St → Prop, I = (fun m st => ∃ (p46 : Nat) (c46_20 : Int) (c46_5 : Bool) (c46_6 : Bool) (c46_o0 : Int), p46 = m ∧ loOk c46_20 = true ∧ Int.toNat ((IntKind.i64.wrap ((IntKind.i64.wrap (r29.SightStreet.Eye.High - r29.SightStreet.Eye.Low)) + 1)) - c46_20) = p46 ∧ st.df = [] ∧ nx32 + 26 ≤ st.nx ∧ st.H 17 = some (.cells (some 97) (cGsightview r29)) ∧ st.H b32_0 = some (.cells (el32_0) (cellsL eI c32_9)) ∧ st.H (nx32 + 2) = some (.cells (some 3) ([.lit (.int .i64 c32_29)])) ∧ st.H (nx32 + 11) = some (.cells (some 97) ((cGSightStreet r29.SightStreet) ++ (cGSightPlace r29.SightPlace) ++ (cGSightBoard r29.board) ++ [.lit (.int .i64 c46_o0)])) ∧ st.tm 1 = .fn (.func 71) [] [.ptr (nx32 + 2) 0] ∧ st.tm 2 = .ptr (nx32 + 11) 0 ∧ st.tm 19 = .lit (.int .i64 (IntKind.i64.wrap ((IntKind.i64.wrap (r29.SightStreet.Eye.High - r29.SightStreet.Eye.Low)) + 1))) ∧ st.tm 5 = .lit (.bool c46_5) ∧ st.tm 6 = .lit (.bool c46_6) ∧ st.tm 20 = .lit (.int .i64 c46_20) ∧ K46 (f46 p46 c46_20 c46_5 c46_6 c46_o0)) := ⟨_, rfl⟩
      refine loopK mixed (by kernel_rfl) I46 (Int.toNat ((IntKind.i64.wrap ((IntKind.i64.wrap (r29.SightStreet.Eye.High - r29.SightStreet.Eye.Low)) + 1)) - 0)) (by rw [hI46]; refine ⟨Int.toNat ((IntKind.i64.wrap ((IntKind.i64.wrap (r29.SightStreet.Eye.High - r29.SightStreet.Eye.Low)) + 1)) - 0), 0, true, false, r29.power, rfl, (by rfl), rfl, rfl, (show nx32 + 26 ≤ nx32 + 26 by omega), ?_, ?_, ?_, ?_, ?_, ?_, ?_, ?_, ?_, ?_, h⟩ <;> first | (simp only [ua, d23, n39, H34, q41, H40, q42, d44, w45, nm, seval] <;> rfl) | rfl) ?_
      rintro m ⟨tm, H, nx46, df⟩ hinv
      rw [hI46] at hinv
      obtain ⟨p46, c46_20, c46_5, c46_6, c46_o0, rfl, hi46, hp46, hdf, hn46, H48, H49, H50, H51, e52, e53, e54, e55, e56, e57, h⟩ := hinv
      simp only at hdf hn46 H48 H49 H50 H51 e52 e53 e54 e55 e56 e57
      have n58 := base_ne0 (m := 26) (b := nx46) (by omega)
      have n59 := base_ne (a := nx32) (m := 26) (b := nx46) (by omega)
      have n60 := own_lt (β := b32_0) (nx := nx46) (by omega)
      subst hdf hf46
      cases p46 with
      | zero =>
       have d61 : (decide (c46_20 < (IntKind.i64.wrap ((IntKind.i64.wrap (r29.SightStreet.Eye.High - r29.SightStreet.Eye.Low)) + 1)))) = false := cnt_not_lt hp46
       simp only [g_sight_Melts_l1, hs, reduceCtorEq] at h
       replace h := kG46 _ h
       try dsimp only at h
       try simp only [hs] at h
       cases d62 : (c46_5)
       ·simp only [d62, hs, reduceCtorEq] at h
        cases d63 : (c46_6)
        ·simp only [d63, hs, reduceCtorEq] at h
         simp only [vz, tyf, d23, (ix24 o28), g33, n39, q41, q42, d44, w45, g47, n58, n59, n60, e52, e53, e54, e55, e56, e57, H48, H49, H50, H51, d61, d62, d63, nm, seval]
         refine opd_ret (x := (.lit (.int .i64 1))) (by first | (simp only [Tryz.results68, resV, resL, resV1, tgt_ptr, tgt_tp, uw, cr, tyf, d23, (ix24 o28), g33, n39, q41, q42, d44, w45, g47, n58, n59, n60, e52, e53, e54, e55, e56, e57, H48, H49, H50, H51, d61, d62, d63, nm, seval] <;> rfl) | rfl) ?_
         cases g64 : (roomOk 8 (List.length (c32_9 ++ [1])))
         ·simp only [g64, hs, reduceCtorEq] at h
          exact absurd h kN32
         simp only [g64, hs, reduceCtorEq] at h
         simp only [vz, tyf, d23, (ix24 o28), g33, n39, q41, q42, d44, w45, g47, n58, n59, n60, H48, H49, H50, H51, d61, d62, d63, e35, e36, e37, e38, g64, nm, seval]
         refine k_app (w := 1) (enc := eI) (xs := c32_9) (ys := ([1])) (el := el32_0) (el2 := (some 34)) (fun _ => rfl) lf54 ao54 Tryz.underlying54 (by first | rfl | assumption | (simp only [updH_apply, without_apply, et54, n39, q41, q42, n58, n59, n60, H48, H49, H50, H51, nm, seval] <;> rfl) | (simp only [updH_apply, without_apply, cellsL_cons, cellsL_nil, mV_app, mV_app0, tyf, d23, (ix24 o28), g33, n39, q41, q42, d44, w45, g47, n58, n59, n60, H48, H49, H50, H51, d61, d62, d63, e35, e36, e37, e38, g64, nm, seval]; done)) (by first | rfl | assumption | (simp only [updH_apply, without_apply, et54, n39, q41, q42, n58, n59, n60, H48, H49, H50, H51, nm, seval] <;> rfl) | (simp only [updH_apply, without_apply, cellsL_cons, cellsL_nil, mV_app, mV_app0, tyf, d23, (ix24 o28), g33, n39, q41, q42, d44, w45, g47, n58, n59, n60, H48, H49, H50, H51, d61, d62, d63, e35, e36, e37, e38, g64, nm, seval]; done)) (Nat.zero_lt_succ _) g64 ?_
         simp only [vz, tyf, d23, (ix24 o28), g33, n39, q41, q42, d44, w45, g47, n58, n59, n60, H48, H49, H50, H51, d61, d62, d63, e35, e36, e37, e38, g64, nm, seval]
         exact ⟨p32, Nat.lt_succ_self _, by rw [hI32]; refine ⟨p32, c32_29 + 1, (c32_9 ++ [1]), .ref (nx32 + 9) 0 (List.length (c32_9 ++ [1])) 1 (List.length (c32_9 ++ [1])), rfl, cnt_lo hi32, cnt_next hp32, rfl, (show 26 ≤ nx46 + 8 by omega), ?_, e35, e36, ?_, ?_, Or.inl ⟨nx32 + 9, (sameEl el32_0 34), rfl, (by first | omega | (simp only [nm, seval]; omega)), (by first | omega | (intro hh; simp only [n39, q41, q42, n58, n59, n60, reduceCtorEq] at hh)), ?_⟩, h⟩ <;> first | (simp only [ua, d23, n39, q41, q42, d44, w45, n58, n59, n60, H48, H49, H50, H51, d61, d62, d63, e35, e36, e37, e38, nm, seval] <;> rfl) | rfl⟩
        simp only [d63, hs, reduceCtorEq] at h
        simp only [vz, tyf, d23, (ix24 o28), g33, n39, q41, q42, d44, w45, g47, n58, n59, n60, e52, e53, e54, e55, e56, e57, H48, H49, H50, H51, d61, d62, d63, nm, seval]
        refine opd_ret (x := (.lit (.int .i64 2))) (by first | (simp only [Tryz.results68, resV, resL, resV1, tgt_ptr, tgt_tp, uw, cr, tyf, d23, (ix24 o28), g33, n39, q41, q42, d44, w45, g47, n58, n59, n60, e52, e53, e54, e55, e56, e57, H48, H49, H50, H51, d61, d62, d63, nm, seval] <;> rfl) | rfl) ?_
        cases g65 : (roomOk 8 (List.length (c32_9 ++ [2])))
        ·simp only [g65, hs, reduceCtorEq] at h
         exact absurd h kN32
        simp only [g65, hs, reduceCtorEq] at h
        simp only [vz, tyf, d23, (ix24 o28), g33, n39, q41, q42, d44, w45, g47, n58, n59, n60, H48, H49, H50, H51, d61, d62, d63, e35, e36, e37, e38, g65, nm, seval]
        refine k_app (w := 1) (enc := eI) (xs := c32_9) (ys := ([2])) (el := el32_0) (el2 := (some 34)) (fun _ => rfl) lf54 ao54 Tryz.underlying54 (by first | rfl | assumption | (simp only [updH_apply, without_apply, et54, n39, q41, q42, n58, n59, n60, H48, H49, H50, H51, nm, seval] <;> rfl) | (simp only [updH_apply, without_apply, cellsL_cons, cellsL_nil, mV_app, mV_app0, tyf, d23, (ix24 o28), g33, n39, q41, q42, d44, w45, g47, n58, n59, n60, H48, H49, H50, H51, d61, d62, d63, e35, e36, e37, e38, g65, nm, seval]; done)) (by first | rfl | assumption | (simp only [updH_apply, without_apply, et54, n39, q41, q42, n58, n59, n60, H48, H49, H50, H51, nm, seval] <;> rfl) | (simp only [updH_apply, without_apply, cellsL_cons, cellsL_nil, mV_app, mV_app0, tyf, d23, (ix24 o28), g33, n39, q41, q42, d44, w45, g47, n58, n59, n60, H48, H49, H50, H51, d61, d62, d63, e35, e36, e37, e38, g65, nm, seval]; done)) (Nat.zero_lt_succ _) g65 ?_
        simp only [vz, tyf, d23, (ix24 o28), g33, n39, q41, q42, d44, w45, g47, n58, n59, n60, H48, H49, H50, H51, d61, d62, d63, e35, e36, e37, e38, g65, nm, seval]
        exact ⟨p32, Nat.lt_succ_self _, by rw [hI32]; refine ⟨p32, c32_29 + 1, (c32_9 ++ [2]), .ref (nx32 + 9) 0 (List.length (c32_9 ++ [2])) 1 (List.length (c32_9 ++ [2])), rfl, cnt_lo hi32, cnt_next hp32, rfl, (show 26 ≤ nx46 + 8 by omega), ?_, e35, e36, ?_, ?_, Or.inl ⟨nx32 + 9, (sameEl el32_0 34), rfl, (by first | omega | (simp only [nm, seval]; omega)), (by first | omega | (intro hh; simp only [n39, q41, q42, n58, n59, n60, reduceCtorEq] at hh)), ?_⟩, h⟩ <;> first | (simp only [ua, d23, n39, q41, q42, d44, w45, n58, n59, n60, H48, H49, H50, H51, d61, d62, d63, e35, e36, e37, e38, nm, seval] <;> rfl) | rfl⟩
       simp only [d62, hs, reduceCtorEq] at h
       simp only [vz, tyf, d23, (ix24 o28), g33, n39, q41, q42, d44, w45, g47, n58, n59, n60, e52, e53, e54, e55, e56, e57, H48, H49, H50, H51, d61, d62, nm, seval]
       refine opd_ret (x := (.lit (.int .i64 3))) (by first | (simp only [Tryz.results68, resV, resL, resV1, tgt_ptr, tgt_tp, uw, cr, tyf, d23, (ix24 o28), g33, n39, q41, q42, d44, w45, g47, n58, n59, n60, e52, e53, e54, e55, e56, e57, H48, H49, H50, H51, d61, d62, nm, seval] <;> rfl) | rfl) ?_
       cases g66 : (roomOk 8 (List.length (c32_9 ++ [3])))
       ·simp only [g66, hs, reduceCtorEq] at h
        exact absurd h kN32
       simp only [g66, hs, reduceCtorEq] at h
       simp only [vz, tyf, d23, (ix24 o28), g33, n39, q41, q42, d44, w45, g47, n58, n59, n60, H48, H49, H50, H51, d61, d62, e35, e36, e37, e38, g66, nm, seval]
       refine k_app (w := 1) (enc := eI) (xs := c32_9) (ys := ([3])) (el := el32_0) (el2 := (some 34)) (fun _ => rfl) lf54 ao54 Tryz.underlying54 (by first | rfl | assumption | (simp only [updH_apply, without_apply, et54, n39, q41, q42, n58, n59, n60, H48, H49, H50, H51, nm, seval] <;> rfl) | (simp only [updH_apply, without_apply, cellsL_cons, cellsL_nil, mV_app, mV_app0, tyf, d23, (ix24 o28), g33, n39, q41, q42, d44, w45, g47, n58, n59, n60, H48, H49, H50, H51, d61, d62, e35, e36, e37, e38, g66, nm, seval]; done)) (by first | rfl | assumption | (simp only [updH_apply, without_apply, et54, n39, q41, q42, n58, n59, n60, H48, H49, H50, H51, nm, seval] <;> rfl) | (simp only [updH_apply, without_apply, cellsL_cons, cellsL_nil, mV_app, mV_app0, tyf, d23, (ix24 o28), g33, n39, q41, q42, d44, w45, g47, n58, n59, n60, H48, H49, H50, H51, d61, d62, e35, e36, e37, e38, g66, nm, seval]; done)) (Nat.zero_lt_succ _) g66 ?_
       simp only [vz, tyf, d23, (ix24 o28), g33, n39, q41, q42, d44, w45, g47, n58, n59, n60, H48, H49, H50, H51, d61, d62, e35, e36, e37, e38, g66, nm, seval]
       exact ⟨p32, Nat.lt_succ_self _, by rw [hI32]; refine ⟨p32, c32_29 + 1, (c32_9 ++ [3]), .ref (nx32 + 9) 0 (List.length (c32_9 ++ [3])) 1 (List.length (c32_9 ++ [3])), rfl, cnt_lo hi32, cnt_next hp32, rfl, (show 26 ≤ nx46 + 6 by omega), ?_, e35, e36, ?_, ?_, Or.inl ⟨nx32 + 9, (sameEl el32_0 34), rfl, (by first | omega | (simp only [nm, seval]; omega)), (by first | omega | (intro hh; simp only [n39, q41, q42, n58, n59, n60, reduceCtorEq] at hh)), ?_⟩, h⟩ <;> first | (simp only [ua, d23, n39, q41, q42, d44, w45, n58, n59, n60, H48, H49, H50, H51, d61, d62, e35, e36, e37, e38, nm, seval] <;> rfl) | rfl⟩
      | succ p46 =>
       have d67 : (decide (c46_20 < (IntKind.i64.wrap ((IntKind.i64.wrap (r29.SightStreet.Eye.High - r29.SightStreet.Eye.Low)) + 1)))) = true := cnt_lt hp46
       have w68 := cnt_wrap hi46 hp46 g47
       simp only [g_sight_Melts_l1, hs, reduceCtorEq] at h
       cases g70 : (boundOk (IntKind.i64.wrap ((IntKind.i64.wrap (r29.SightStreet.Light.High - r29.SightStreet.Light.Low)) + 1)))
       ·simp only [g70, hs, reduceCtorEq] at h
        exact absurd h kN46
       simp only [g70, hs, reduceCtorEq] at h
       simp only [vz, tyf, d23, (ix24 o28), g33, n39, q41, q42, d44, w45, g47, n58, n59, n60, e52, e53, e54, e55, e56, e57, H48, H49, H50, H51, d67, w68, g70, nm, seval]
       obtain ⟨K69, h, kR69, kG69, kB69, kN69⟩ := lbind_intro h kN46
       obtain ⟨f69, hf69, h⟩ := call5 h
       obtain ⟨I69, hI69⟩ : ∃ I : Nat → St → Prop, I = (fun m st => ∃ (p69 : Nat) (c69_33 : Int) (c69_5 : Bool) (c69_6 : Bool) (c69_o0 : Int), p69 = m ∧ loOk c69_33 = true ∧ Int.toNat ((IntKind.i64.wrap ((IntKind.i64.wrap (r29.SightStreet.Light.High - r29.SightStreet.Light.Low)) + 1)) - c69_33) = p69 ∧ st.df = [] ∧ nx46 + 14 ≤ st.nx ∧ st.H 17 = some (.cells (some 97) (cGsightview r29)) ∧ st.H b32_0 = some (.cells (el32_0) (cellsL eI c32_9)) ∧ st.H (nx32 + 2) = some (.cells (some 3) ([.lit (.int .i64 c32_29)])) ∧ st.H (nx32 + 11) = some (.cells (some 97) ((cGSightStreet r29.SightStreet) ++ (cGSightPlace r29.SightPlace) ++ (cGSightBoard r29.board) ++ [.lit (.int .i64 c69_o0)])) ∧ st.tm 1 = .fn (.func 71) [] [.ptr (nx32 + 2) 0] ∧ st.tm 2 = .ptr (nx32 + 11) 0 ∧ st.tm 7 = .lit (.int .i64 c46_20) ∧ st.tm 19 = .lit (.int .i64 (IntKind.i64.wrap ((IntKind.i64.wrap (r29.SightStreet.Eye.High - r29.SightStreet.Eye.Low)) + 1))) ∧ st.tm 20 = .lit (.int .i64 c46_20) ∧ st.tm 32 = .lit (.int .i64 (IntKind.i64.wrap ((IntKind.i64.wrap (r29.SightStreet.Light.High - r29.SightStreet.Light.Low)) + 1))) ∧ st.tm 5 = .lit (.bool c69_5) ∧ st.tm 6 = .lit (.bool c69_6) ∧ st.tm 33 = .lit (.int .i64 c69_33) ∧ K69 (f69 p69 c69_33 c69_5 c69_6 c69_o0)) := ⟨_, rfl⟩
       refine loopK mixed (by kernel_rfl) I69 (Int.toNat ((IntKind.i64.wrap ((IntKind.i64.wrap (r29.SightStreet.Light.High - r29.SightStreet.Light.Low)) + 1)) - 0)) (by rw [hI69]; refine ⟨Int.toNat ((IntKind.i64.wrap ((IntKind.i64.wrap (r29.SightStreet.Light.High - r29.SightStreet.Light.Low)) + 1)) - 0), 0, c46_5, c46_6, c46_o0, rfl, (by rfl), rfl, rfl, (show nx46 + 14 ≤ nx46 + 14 by omega), ?_, ?_, ?_, ?_, e52, e53, ?_, e54, e57, ?_, e55, e56, ?_, h⟩ <;> first | (simp only [ua, d23, n39, q41, q42, d44, w45, n58, n59, n60, e52, e53, e54, e55, e56, e57, H48, H49, H50, H51, d67, w68, nm, seval] <;> rfl) | rfl) ?_
       rintro m ⟨tm, H, nx69, df⟩ hinv
       rw [hI69] at hinv
       obtain ⟨p69, c69_33, c69_5, c69_6, c69_o0, rfl, hi69, hp69, hdf, hn69, H71, H72, H73, H74, e75, e76, e77, e78, e79, e80, e81, e82, e83, h⟩ := hinv
       simp only at hdf hn69 H71 H72 H73 H74 e75 e76 e77 e78 e79 e80 e81 e82 e83
       have n84 := base_ne0 (m := 26) (b := nx69) (by omega)
       have n85 := base_ne (a := nx32) (m := 26) (b := nx69) (by omega)
       have n86 := base_ne (a := nx46) (m := 14) (b := nx69) (by omega)
       have n87 := own_lt (β := b32_0) (nx := nx69) (by omega)
       subst hdf hf69
       cases p69 with
       | zero =>
        have d88 : (decide (c69_33 < (IntKind.i64.wrap ((IntKind.i64.wrap (r29.SightStreet.Light.High - r29.SightStreet.Light.Low)) + 1)))) = false := cnt_not_lt hp69
        simp only [g_sight_Melts_l2, hs, reduceCtorEq] at h
        replace h := kG69 _ h
        try dsimp only at h
        try simp only [hs] at h
        simp only [vz, tyf, d23, (ix24 o28), g33, n39, q41, q42, d44, w45, g47, n58, n59, n60, d67, w68, g70, n84, n85, n86, n87, e75, e76, e77, e78, e79, e80, e81, e82, e83, H71, H72, H73, H74, d88, nm, seval]
        exact ⟨p46, Nat.lt_succ_self _, by rw [hI46]; refine ⟨p46, c46_20 + 1, c69_5, c69_6, c69_o0, rfl, cnt_lo hi46, cnt_next hp46, rfl, (show nx32 + 26 ≤ nx69 + 3 by omega), ?_, ?_, ?_, ?_, e75, e76, e78, e81, e82, ?_, h⟩ <;> first | (simp only [ua, d23, n39, q41, q42, d44, w45, n58, n59, n60, d67, w68, n84, n85, n86, n87, e75, e76, e77, e78, e79, e80, e81, e82, e83, H71, H72, H73, H74, d88, nm, seval] <;> rfl) | rfl⟩
       | succ p69 =>
        have d89 : (decide (c69_33 < (IntKind.i64.wrap ((IntKind.i64.wrap (r29.SightStreet.Light.High - r29.SightStreet.Light.Low)) + 1)))) = true := cnt_lt hp69
        have w90 := cnt_wrap hi69 hp69 g70
        simp only [g_sight_Melts_l2, hs, reduceCtorEq] at h
        simp only [vz, tyf, d23, (ix24 o28), g33, n39, q41, q42, d44, w45, g47, n58, n59, n60, d67, w68, g70, n84, n85, n86, n87, e75, e76, e77, e78, e79, e80, e81, e82, e83, H71, H72, H73, H74, d89, w90, nm, seval]
        refine kopen ?_
        rw [openK_eq]
        refine VOpen.run mixed Tryz.call71 Tryz.func71 rfl (by simp [Tryz.ntmps71]; kernel_rfl) ?_
        cases o92 : (g_sight_view_isApart (Gsightview.mk r29.SightStreet r29.SightPlace r29.board (IntKind.i64.wrap ((IntKind.i64.wrap (r29.SightStreet.Eye.Low + c46_20)) * (IntKind.i64.wrap (r29.SightStreet.Light.Low + c69_33))))) c32_29) with
        | none =>
         simp only [o92, hs, reduceCtorEq] at h
         exact absurd h kN69
        | some r91 =>
         simp only [o92, hs, reduceCtorEq] at h
         simp only [vz, tyf, d23, (ix24 o28), g33, n39, q41, q42, d44, w45, g47, n58, n59, n60, d67, w68, g70, n84, n85, n86, n87, H71, H72, H73, H74, d89, w90, nm, seval]
         refine ktree (args0 := [.agg (cGsightview (Gsightview.mk r29.SightStreet r29.SightPlace r29.board (IntKind.i64.wrap ((IntKind.i64.wrap (r29.SightStreet.Eye.Low + c46_20)) * (IntKind.i64.wrap (r29.SightStreet.Light.Low + c69_33)))))), .lit (.int .i64 c32_29)]) (by first | (simp only [nrm, tynrm] <;> rfl) | rfl) (by simp only [tre, tytre, Bool.and_self]) (g_sight_view_isApart_ok _ _ _ o92) ?_
         refine fin_cut (fun tm => tm 6 = .lit (.bool r91) ∧ True) (by refine ⟨?_, trivial⟩ <;> first | (simp only [ua, d23, n39, q41, q42, d44, w45, n58, n59, n60, d67, w68, n84, n85, n86, n87, H71, H72, H73, H74, d89, w90, nm, seval] <;> rfl) | rfl) ?_
         rintro tm ⟨e93, _⟩
         simp only [vz, tyf, d23, (ix24 o28), g33, n39, q41, q42, d44, w45, g47, n58, n59, n60, d67, w68, g70, n84, n85, n86, n87, H71, H72, H73, H74, d89, w90, e93, nm, seval]
         refine opd_ret (x := (.lit (.bool (!r91)))) (by first | (simp only [Tryz.results71, resV, resL, resV1, tgt_ptr, tgt_tp, uw, cr, tyf, d23, (ix24 o28), g33, n39, q41, q42, d44, w45, g47, n58, n59, n60, d67, w68, g70, n84, n85, n86, n87, H71, H72, H73, H74, d89, w90, e93, nm, seval] <;> rfl) | rfl) ?_
         cases d94 : (c69_5)
         ·simp only [d94, hs, reduceCtorEq] at h
          cases d95 : (c69_6)
          ·simp only [d95, hs, reduceCtorEq] at h
           cases d96 : (r91)
           ·simp only [d96, hs, reduceCtorEq] at h
            replace h := kB69 _ _ h
            try dsimp only at h
            try simp only [hs] at h
            replace h := kG46 _ h
            try dsimp only at h
            try simp only [hs] at h
            simp only [vz, tyf, d23, (ix24 o28), g33, n39, q41, q42, d44, w45, g47, n58, n59, n60, d67, w68, g70, n84, n85, n86, n87, H71, H72, H73, H74, d89, w90, e75, e76, e77, e78, e79, e80, e81, e82, e83, d94, d95, d96, nm, seval]
            refine opd_ret (x := (.lit (.int .i64 2))) (by first | (simp only [Tryz.results68, resV, resL, resV1, tgt_ptr, tgt_tp, uw, cr, tyf, d23, (ix24 o28), g33, n39, q41, q42, d44, w45, g47, n58, n59, n60, d67, w68, g70, n84, n85, n86, n87, H71, H72, H73, H74, d89, w90, e75, e76, e77, e78, e79, e80, e81, e82, e83, d94, d95, d96, nm, seval] <;> rfl) | rfl) ?_
            cases g97 : (roomOk 8 (List.length (c32_9 ++ [2])))
            ·simp only [g97, hs, reduceCtorEq] at h
             exact absurd h kN32
            simp only [g97, hs, reduceCtorEq] at h
            simp only [vz, tyf, d23, (ix24 o28), g33, n39, q41, q42, d44, w45, g47, n58, n59, n60, d67, w68, g70, n84, n85, n86, n87, H71, H72, H73, H74, d89, w90, d94, d95, d96, e35, e36, e37, e38, g97, nm, seval]
            refine k_app (w := 1) (enc := eI) (xs := c32_9) (ys := ([2])) (el := el32_0) (el2 := (some 34)) (fun _ => rfl) lf54 ao54 Tryz.underlying54 (by first | rfl | assumption | (simp only [updH_apply, without_apply, et54, n39, q41, q42, n58, n59, n60, n84, n85, n86, n87, H71, H72, H73, H74, nm, seval] <;> rfl) | (simp only [updH_apply, without_apply, cellsL_cons, cellsL_nil, mV_app, mV_app0, tyf, d23, (ix24 o28), g33, n39, q41, q42, d44, w45, g47, n58, n59, n60, d67, w68, g70, n84, n85, n86, n87, H71, H72, H73, H74, d89, w90, d94, d95, d96, e35, e36, e37, e38, g97, nm, seval]; done)) (by first | rfl | assumption | (simp only [updH_apply, without_apply, et54, n39, q41, q42, n58, n59, n60, n84, n85, n86, n87, H71, H72, H73, H74, nm, seval] <;> rfl) | (simp only [updH_apply, without_apply, cellsL_cons, cellsL_nil, mV_app, mV_app0, tyf, d23, (ix24 o28), g33, n39, q41, q42, d44, w45, g47, n58, n59, n60, d67, w68, g70, n84, n85, n86, n87, H71, H72, H73, H74, d89, w90, d94, d95, d96, e35, e36, e37, e38, g97, nm, seval]; done)) (Nat.zero_lt_succ _) g97 ?_
            simp only [vz, tyf, d23, (ix24 o28), g33, n39, q41, q42, d44, w45, g47, n58, n59, n60, d67, w68, g70, n84, n85, n86, n87, H71, H72, H73, H74, d89, w90, d94, d95, d96, e35, e36, e37, e38, g97, nm, seval]
            exact ⟨p32, Nat.lt_succ_self _, by rw [hI32]; refine ⟨p32, c32_29 + 1, (c32_9 ++ [2]), .ref (nx32 + 9) 0 (List.length (c32_9 ++ [2])) 1 (List.length (c32_9 ++ [2])), rfl, cnt_lo hi32, cnt_next hp32, rfl, (show 26 ≤ nx69 + 51 by omega), ?_, e35, e36, ?_, ?_, Or.inl ⟨nx32 + 9, (sameEl el32_0 34), rfl, (by first | omega | (simp only [nm, seval]; omega)), (by first | omega | (intro hh; simp only [n39, q41, q42, n58, n59, n60, n84, n85, n86, n87, reduceCtorEq] at hh)), ?_⟩, h⟩ <;> first | (simp only [ua, d23, n39, q41, q42, d44, w45, n58, n59, n60, d67, w68, n84, n85, n86, n87, H71, H72, H73, H74, d89, w90, d94, d95, d96, e35, e36, e37, e38, nm, seval] <;> rfl) | rfl⟩
           simp only [d96, hs, reduceCtorEq] at h
           simp only [vz, tyf, d23, (ix24 o28), g33, n39, q41, q42, d44, w45, g47, n58, n59, n60, d67, w68, g70, n84, n85, n86, n87, H71, H72, H73, H74, d89, w90, e75, e76, e77, e78, e79, e80, e81, e82, e83, d94, d95, d96, nm, seval]
           exact ⟨p69, Nat.lt_succ_self _, by rw [hI69]; refine ⟨p69, c69_33 + 1, false, false, IntKind.i64.wrap ((IntKind.i64.wrap (r29.SightStreet.Eye.Low + c46_20)) * (IntKind.i64.wrap (r29.SightStreet.Light.Low + c69_33))), rfl, cnt_lo hi69, cnt_next hp69, rfl, (show nx46 + 14 ≤ nx69 + 46 by omega), ?_, ?_, ?_, ?_, e75, e76, e77, e78, e79, e80, ?_, ?_, ?_, h⟩ <;> first | (simp only [ua, d23, n39, q41, q42, d44, w45, n58, n59, n60, d67, w68, n84, n85, n86, n87, H71, H72, H73, H74, d89, w90, e75, e76, e77, e78, e79, e80, e81, e82, e83, d94, d95, d96, nm, seval] <;> rfl) | rfl⟩
          simp only [d95, hs, reduceCtorEq] at h
          replace h := kB69 _ _ h
          try dsimp only at h
          try simp only [hs] at h
          replace h := kG46 _ h
          try dsimp only at h
          try simp only [hs] at h
          simp only [vz, tyf, d23, (ix24 o28), g33, n39, q41, q42, d44, w45, g47, n58, n59, n60, d67, w68, g70, n84, n85, n86, n87, H71, H72, H73, H74, d89, w90, e75, e76, e77, e78, e79, e80, e81, e82, e83, d94, d95, nm, seval]
          refine opd_ret (x := (.lit (.int .i64 2))) (by first | (simp only [Tryz.results68, resV, resL, resV1, tgt_ptr, tgt_tp, uw, cr, tyf, d23, (ix24 o28), g33, n39, q41, q42, d44, w45, g47, n58, n59, n60, d67, w68, g70, n84, n85, n86, n87, H71, H72, H73, H74, d89, w90, e75, e76, e77, e78, e79, e80, e81, e82, e83, d94, d95, nm, seval] <;> rfl) | rfl) ?_
          cases g98 : (roomOk 8 (List.length (c32_9 ++ [2])))
          ·simp only [g98, hs, reduceCtorEq] at h
           exact absurd h kN32
          simp only [g98, hs, reduceCtorEq] at h
          simp only [vz, tyf, d23, (ix24 o28), g33, n39, q41, q42, d44, w45, g47, n58, n59, n60, d67, w68, g70, n84, n85, n86, n87, H71, H72, H73, H74, d89, w90, d94, d95, e35, e36, e37, e38, g98, nm, seval]
          refine k_app (w := 1) (enc := eI) (xs := c32_9) (ys := ([2])) (el := el32_0) (el2 := (some 34)) (fun _ => rfl) lf54 ao54 Tryz.underlying54 (by first | rfl | assumption | (simp only [updH_apply, without_apply, et54, n39, q41, q42, n58, n59, n60, n84, n85, n86, n87, H71, H72, H73, H74, nm, seval] <;> rfl) | (simp only [updH_apply, without_apply, cellsL_cons, cellsL_nil, mV_app, mV_app0, tyf, d23, (ix24 o28), g33, n39, q41, q42, d44, w45, g47, n58, n59, n60, d67, w68, g70, n84, n85, n86, n87, H71, H72, H73, H74, d89, w90, d94, d95, e35, e36, e37, e38, g98, nm, seval]; done)) (by first | rfl | assumption | (simp only [updH_apply, without_apply, et54, n39, q41, q42, n58, n59, n60, n84, n85, n86, n87, H71, H72, H73, H74, nm, seval] <;> rfl) | (simp only [updH_apply, without_apply, cellsL_cons, cellsL_nil, mV_app, mV_app0, tyf, d23, (ix24 o28), g33, n39, q41, q42, d44, w45, g47, n58, n59, n60, d67, w68, g70, n84, n85, n86, n87, H71, H72, H73, H74, d89, w90, d94, d95, e35, e36, e37, e38, g98, nm, seval]; done)) (Nat.zero_lt_succ _) g98 ?_
          simp only [vz, tyf, d23, (ix24 o28), g33, n39, q41, q42, d44, w45, g47, n58, n59, n60, d67, w68, g70, n84, n85, n86, n87, H71, H72, H73, H74, d89, w90, d94, d95, e35, e36, e37, e38, g98, nm, seval]
          exact ⟨p32, Nat.lt_succ_self _, by rw [hI32]; refine ⟨p32, c32_29 + 1, (c32_9 ++ [2]), .ref (nx32 + 9) 0 (List.length (c32_9 ++ [2])) 1 (List.length (c32_9 ++ [2])), rfl, cnt_lo hi32, cnt_next hp32, rfl, (show 26 ≤ nx69 + 51 by omega), ?_, e35, e36, ?_, ?_, Or.inl ⟨nx32 + 9, (sameEl el32_0 34), rfl, (by first | omega | (simp only [nm, seval]; omega)), (by first | omega | (intro hh; simp only [n39, q41, q42, n58, n59, n60, n84, n85, n86, n87, reduceCtorEq] at hh)), ?_⟩, h⟩ <;> first | (simp only [ua, d23, n39, q41, q42, d44, w45, n58, n59, n60, d67, w68, n84, n85, n86, n87, H71, H72, H73, H74, d89, w90, d94, d95, e35, e36, e37, e38, nm, seval] <;> rfl) | rfl⟩
         simp only [d94, hs, reduceCtorEq] at h
         cases d99 : (c69_6)
         ·simp only [d99, hs, reduceCtorEq] at h
          cases d100 : (r91)
          ·simp only [d100, hs, reduceCtorEq] at h
           simp only [vz, tyf, d23, (ix24 o28), g33, n39, q41, q42, d44, w45, g47, n58, n59, n60, d67, w68, g70, n84, n85, n86, n87, H71, H72, H73, H74, d89, w90, e75, e76, e77, e78, e79, e80, e81, e82, e83, d94, d99, d100, nm, seval]
           exact ⟨p69, Nat.lt_succ_self _, by rw [hI69]; refine ⟨p69, c69_33 + 1, true, true, IntKind.i64.wrap ((IntKind.i64.wrap (r29.SightStreet.Eye.Low + c46_20)) * (IntKind.i64.wrap (r29.SightStreet.Light.Low + c69_33))), rfl, cnt_lo hi69, cnt_next hp69, rfl, (show nx46 + 14 ≤ nx69 + 46 by omega), ?_, ?_, ?_, ?_, e75, e76, e77, e78, e79, e80, ?_, ?_, ?_, h⟩ <;> first | (simp only [ua, d23, n39, q41, q42, d44, w45, n58, n59, n60, d67, w68, n84, n85, n86, n87, H71, H72, H73, H74, d89, w90, e75, e76, e77, e78, e79, e80, e81, e82, e83, d94, d99, d100, nm, seval] <;> rfl) | rfl⟩
          simp only [d100, hs, reduceCtorEq] at h
          simp only [vz, tyf, d23, (ix24 o28), g33, n39, q41, q42, d44, w45, g47, n58, n59, n60, d67, w68, g70, n84, n85, n86, n87, H71, H72, H73, H74, d89, w90, e75, e76, e77, e78, e79, e80, e81, e82, e83, d94, d99, d100, nm, seval]
          exact ⟨p69, Nat.lt_succ_self _, by rw [hI69]; refine ⟨p69, c69_33 + 1, false, false, IntKind.i64.wrap ((IntKind.i64.wrap (r29.SightStreet.Eye.Low + c46_20)) * (IntKind.i64.wrap (r29.SightStreet.Light.Low + c69_33))), rfl, cnt_lo hi69, cnt_next hp69, rfl, (show nx46 + 14 ≤ nx69 + 46 by omega), ?_, ?_, ?_, ?_, e75, e76, e77, e78, e79, e80, ?_, ?_, ?_, h⟩ <;> first | (simp only [ua, d23, n39, q41, q42, d44, w45, n58, n59, n60, d67, w68, n84, n85, n86, n87, H71, H72, H73, H74, d89, w90, e75, e76, e77, e78, e79, e80, e81, e82, e83, d94, d99, d100, nm, seval] <;> rfl) | rfl⟩
         simp only [d99, hs, reduceCtorEq] at h
         cases d101 : (r91)
         ·simp only [d101, hs, reduceCtorEq] at h
          simp only [vz, tyf, d23, (ix24 o28), g33, n39, q41, q42, d44, w45, g47, n58, n59, n60, d67, w68, g70, n84, n85, n86, n87, H71, H72, H73, H74, d89, w90, e75, e76, e77, e78, e79, e80, e81, e82, e83, d94, d99, d101, nm, seval]
          exact ⟨p69, Nat.lt_succ_self _, by rw [hI69]; refine ⟨p69, c69_33 + 1, true, true, IntKind.i64.wrap ((IntKind.i64.wrap (r29.SightStreet.Eye.Low + c46_20)) * (IntKind.i64.wrap (r29.SightStreet.Light.Low + c69_33))), rfl, cnt_lo hi69, cnt_next hp69, rfl, (show nx46 + 14 ≤ nx69 + 46 by omega), ?_, ?_, ?_, ?_, e75, e76, e77, e78, e79, e80, ?_, ?_, ?_, h⟩ <;> first | (simp only [ua, d23, n39, q41, q42, d44, w45, n58, n59, n60, d67, w68, n84, n85, n86, n87, H71, H72, H73, H74, d89, w90, e75, e76, e77, e78, e79, e80, e81, e82, e83, d94, d99, d101, nm, seval] <;> rfl) | rfl⟩
         simp only [d101, hs, reduceCtorEq] at h
         replace h := kB69 _ _ h
         try dsimp only at h
         try simp only [hs] at h
         replace h := kG46 _ h
         try dsimp only at h
         try simp only [hs] at h
         simp only [vz, tyf, d23, (ix24 o28), g33, n39, q41, q42, d44, w45, g47, n58, n59, n60, d67, w68, g70, n84, n85, n86, n87, H71, H72, H73, H74, d89, w90, e75, e76, e77, e78, e79, e80, e81, e82, e83, d94, d99, d101, nm, seval]
         refine opd_ret (x := (.lit (.int .i64 2))) (by first | (simp only [Tryz.results68, resV, resL, resV1, tgt_ptr, tgt_tp, uw, cr, tyf, d23, (ix24 o28), g33, n39, q41, q42, d44, w45, g47, n58, n59, n60, d67, w68, g70, n84, n85, n86, n87, H71, H72, H73, H74, d89, w90, e75, e76, e77, e78, e79, e80, e81, e82, e83, d94, d99, d101, nm, seval] <;> rfl) | rfl) ?_
         cases g102 : (roomOk 8 (List.length (c32_9 ++ [2])))
         ·simp only [g102, hs, reduceCtorEq] at h
          exact absurd h kN32
         simp only [g102, hs, reduceCtorEq] at h
         simp only [vz, tyf, d23, (ix24 o28), g33, n39, q41, q42, d44, w45, g47, n58, n59, n60, d67, w68, g70, n84, n85, n86, n87, H71, H72, H73, H74, d89, w90, d94, d99, d101, e35, e36, e37, e38, g102, nm, seval]
         refine k_app (w := 1) (enc := eI) (xs := c32_9) (ys := ([2])) (el := el32_0) (el2 := (some 34)) (fun _ => rfl) lf54 ao54 Tryz.underlying54 (by first | rfl | assumption | (simp only [updH_apply, without_apply, et54, n39, q41, q42, n58, n59, n60, n84, n85, n86, n87, H71, H72, H73, H74, nm, seval] <;> rfl) | (simp only [updH_apply, without_apply, cellsL_cons, cellsL_nil, mV_app, mV_app0, tyf, d23, (ix24 o28), g33, n39, q41, q42, d44, w45, g47, n58, n59, n60, d67, w68, g70, n84, n85, n86, n87, H71, H72, H73, H74, d89, w90, d94, d99, d101, e35, e36, e37, e38, g102, nm, seval]; done)) (by first | rfl | assumption | (simp only [updH_apply, without_apply, et54, n39, q41, q42, n58, n59, n60, n84, n85, n86, n87, H71, H72, H73, H74, nm, seval] <;> rfl) | (simp only [updH_apply, without_apply, cellsL_cons, cellsL_nil, mV_app, mV_app0, tyf, d23, (ix24 o28), g33, n39, q41, q42, d44, w45, g47, n58, n59, n60, d67, w68, g70, n84, n85, n86, n87, H71, H72, H73, H74, d89, w90, d94, d99, d101, e35, e36, e37, e38, g102, nm, seval]; done)) (Nat.zero_lt_succ _) g102 ?_
         simp only [vz, tyf, d23, (ix24 o28), g33, n39, q41, q42, d44, w45, g47, n58, n59, n60, d67, w68, g70, n84, n85, n86, n87, H71, H72, H73, H74, d89, w90, d94, d99, d101, e35, e36, e37, e38, g102, nm, seval]
         exact ⟨p32, Nat.lt_succ_self _, by rw [hI32]; refine ⟨p32, c32_29 + 1, (c32_9 ++ [2]), .ref (nx32 + 9) 0 (List.length (c32_9 ++ [2])) 1 (List.length (c32_9 ++ [2])), rfl, cnt_lo hi32, cnt_next hp32, rfl, (show 26 ≤ nx69 + 51 by omega), ?_, e35, e36, ?_, ?_, Or.inl ⟨nx32 + 9, (sameEl el32_0 34), rfl, (by first | omega | (simp only [nm, seval]; omega)), (by first | omega | (intro hh; simp only [n39, q41, q42, n58, n59, n60, n84, n85, n86, n87, reduceCtorEq] at hh)), ?_⟩, h⟩ <;> first | (simp only [ua, d23, n39, q41, q42, d44, w45, n58, n59, n60, d67, w68, n84, n85, n86, n87, H71, H72, H73, H74, d89, w90, d94, d99, d101, e35, e36, e37, e38, nm, seval] <;> rfl) | rfl⟩
    ·cases p32 with
     | zero =>
      have d103 : (decide (c32_29 < (IntKind.i64.wrap ((List.length r29.board.Letters : Int) - 1)))) = false := cnt_not_lt hp32
      simp only [g_sight_Melts_l0, hs, reduceCtorEq] at h
      replace h := kG32 _ h
      try dsimp only at h
      try simp only [hs] at h
      simp only [vz, tyf, d23, (ix24 o28), g33, n39, e35, e36, e37, e38, H34, d103, nm, seval]
      refine opd_ret (x := (.tup [.lit (.slice none 0 0), .lit (.int .i64 0)])) (by first | (simp only [Tryz.results29, resV, resL, resV1, tgt_ptr, tgt_tp, uw, cr, tyf, d23, (ix24 o28), g33, n39, e35, e36, e37, e38, H34, d103, nm, seval] <;> rfl) | rfl) ?_
      obtain rfl := kF _ h
      refine rr_tree ?_ ?_
      ·simp only [tre, tytre, Bool.and_self]
      ·first | (simp only [outV, uw, showV_ref, cr, tyf, nrm, tynrm, d23, (ix24 o28), g33, n39, e35, e36, e37, e38, H34, d103, nm, seval] <;> rfl) | rfl
     | succ p32 =>
      have d104 : (decide (c32_29 < (IntKind.i64.wrap ((List.length r29.board.Letters : Int) - 1)))) = true := cnt_lt hp32
      have w105 := cnt_wrap hi32 hp32 g33
      simp only [g_sight_Melts_l0, hs, reduceCtorEq] at h
      simp only [vz, tyf, d23, (ix24 o28), g33, n39, e35, e36, e37, e38, H34, d104, w105, nm, seval]
      refine kopen ?_
      rw [openK_eq]
      refine VOpen.run mixed Tryz.call68 Tryz.func68 rfl (by simp [Tryz.ntmps68]; kernel_rfl) ?_
      simp only [vz, tyf, d23, (ix24 o28), g33, n39, H34, d104, w105, nm, seval]
      refine cwp_scope mixed (by kernel_rfl) ?_
      cases g107 : (boundOk (IntKind.i64.wrap ((IntKind.i64.wrap (r29.SightStreet.Eye.High - r29.SightStreet.Eye.Low)) + 1)))
      ·simp only [g107, hs, reduceCtorEq] at h
       exact absurd h kN32
      simp only [g107, hs, reduceCtorEq] at h
      simp only [vz, tyf, d23, (ix24 o28), g33, n39, H34, d104, w105, g107, nm, seval]
      obtain ⟨K106, h, kR106, kG106, kB106, kN106⟩ := lbind_intro h kN32
      obtain ⟨f106, hf106, h⟩ := call5 h
      obtain ⟨I106, hI106⟩ : ∃ I : Nat → St → Prop, I = (fun m st => ∃ (p106 : Nat) (c106_20 : Int) (c106_5 : Bool) (c106_6 : Bool) (c106_o0 : Int), p106 = m ∧ loOk c106_20 = true ∧ Int.toNat ((IntKind.i64.wrap ((IntKind.i64.wrap (r29.SightStreet.Eye.High - r29.SightStreet.Eye.Low)) + 1)) - c106_20) = p106 ∧ st.df = [] ∧ nx32 + 26 ≤ st.nx ∧ st.H 17 = some (.cells (some 97) (cGsightview r29)) ∧ st.H (nx32 + 2) = some (.cells (some 3) ([.lit (.int .i64 c32_29)])) ∧ st.H (nx32 + 11) = some (.cells (some 97) ((cGSightStreet r29.SightStreet) ++ (cGSightPlace r29.SightPlace) ++ (cGSightBoard r29.board) ++ [.lit (.int .i64 c106_o0)])) ∧ st.tm 1 = .fn (.func 71) [] [.ptr (nx32 + 2) 0] ∧ st.tm 2 = .ptr (nx32 + 11) 0 ∧ st.tm 19 = .lit (.int .i64 (IntKind.i64.wrap ((IntKind.i64.wrap (r29.SightStreet.Eye.High - r29.SightStreet.Eye.Low)) + 1))) ∧ st.tm 5 = .lit (.bool c106_5) ∧ st.tm 6 = .lit (.bool c106_6) ∧ st.tm 20 = .lit (.int .i64 c106_20) ∧ K106 (f106 p106 c106_20 c106_5 c106_6 c106_o0)) := ⟨_, rfl⟩
      refine loopK mixed (by kernel_rfl) I106 (Int.toNat ((IntKind.i64.wrap ((IntKind.i64.wrap (r29.SightStreet.Eye.High - r29.SightStreet.Eye.Low)) + 1)) - 0)) (by rw [hI106]; refine ⟨Int.toNat ((IntKind.i64.wrap ((IntKind.i64.wrap (r29.SightStreet.Eye.High - r29.SightStreet.Eye.Low)) + 1)) - 0), 0, true, false, r29.power, rfl, (by rfl), rfl, rfl, (show nx32 + 26 ≤ nx32 + 26 by omega), ?_, ?_, ?_, ?_, ?_, ?_, ?_, ?_, ?_, h⟩ <;> first | (simp only [ua, d23, n39, H34, d104, w105, nm, seval] <;> rfl) | rfl) ?_
      rintro m ⟨tm, H, nx106, df⟩ hinv
      rw [hI106] at hinv
      obtain ⟨p106, c106_20, c106_5, c106_6, c106_o0, rfl, hi106, hp106, hdf, hn106, H108, H109, H110, e111, e112, e113, e114, e115, e116, h⟩ := hinv
      simp only at hdf hn106 H108 H109 H110 e111 e112 e113 e114 e115 e116
      have n117 := base_ne0 (m := 26) (b := nx106) (by omega)
      have n118 := base_ne (a := nx32) (m := 26) (b := nx106) (by omega)
      subst hdf hf106
      cases p106 with
      | zero =>
       have d119 : (decide (c106_20 < (IntKind.i64.wrap ((IntKind.i64.wrap (r29.SightStreet.Eye.High - r29.SightStreet.Eye.Low)) + 1)))) = false := cnt_not_lt hp106
       simp only [g_sight_Melts_l1, hs, reduceCtorEq] at h
       replace h := kG106 _ h
       try dsimp only at h
       try simp only [hs] at h
       cases d120 : (c106_5)
       ·simp only [d120, hs, reduceCtorEq] at h
        cases d121 : (c106_6)
        ·simp only [d121, hs, reduceCtorEq] at h
         simp only [vz, tyf, d23, (ix24 o28), g33, n39, d104, w105, g107, n117, n118, e111, e112, e113, e114, e115, e116, H108, H109, H110, d119, d120, d121, nm, seval]
         refine opd_ret (x := (.lit (.int .i64 1))) (by first | (simp only [Tryz.results68, resV, resL, resV1, tgt_ptr, tgt_tp, uw, cr, tyf, d23, (ix24 o28), g33, n39, d104, w105, g107, n117, n118, e111, e112, e113, e114, e115, e116, H108, H109, H110, d119, d120, d121, nm, seval] <;> rfl) | rfl) ?_
         cases g122 : (roomOk 8 (List.length (([] : List Int) ++ [1])))
         ·simp only [g122, hs, reduceCtorEq] at h
          exact absurd h kN32
         simp only [g122, hs, reduceCtorEq] at h
         simp only [vz, tyf, d23, (ix24 o28), g33, n39, d104, w105, g107, n117, n118, H108, H109, H110, d119, d120, d121, e35, e36, e37, e38, g122, nm, seval]
         refine k_appN (w := 1) (enc := eI) (ys := ([1])) (el2 := (some 34)) (fun _ => rfl) lf54 ao54 Tryz.underlying54 (by first | rfl | assumption | (simp only [updH_apply, without_apply, et54, n39, n117, n118, H108, H109, H110, nm, seval] <;> rfl) | (simp only [updH_apply, without_apply, cellsL_cons, cellsL_nil, mV_app, mV_app0, tyf, d23, (ix24 o28), g33, n39, d104, w105, g107, n117, n118, H108, H109, H110, d119, d120, d121, e35, e36, e37, e38, g122, nm, seval]; done)) (Nat.zero_lt_succ _) g122 ?_
         simp only [vz, tyf, d23, (ix24 o28), g33, n39, d104, w105, g107, n117, n118, H108, H109, H110, d119, d120, d121, e35, e36, e37, e38, g122, nm, seval]
         exact ⟨p32, Nat.lt_succ_self _, by rw [hI32]; refine ⟨p32, c32_29 + 1, (([] : List Int) ++ [1]), .ref (nx32 + 9) 0 (List.length (([] : List Int) ++ [1])) 1 (List.length (([] : List Int) ++ [1])), rfl, cnt_lo hi32, cnt_next hp32, rfl, (show 26 ≤ nx106 + 8 by omega), ?_, e35, e36, ?_, ?_, Or.inl ⟨nx32 + 9, (some 34), rfl, (by first | omega | (simp only [nm, seval]; omega)), (by first | omega | (intro hh; simp only [n39, n117, n118, reduceCtorEq] at hh)), ?_⟩, h⟩ <;> first | (simp only [ua, d23, n39, d104, w105, n117, n118, H108, H109, H110, d119, d120, d121, e35, e36, e37, e38, nm, seval] <;> rfl) | rfl⟩
        simp only [d121, hs, reduceCtorEq] at h
        simp only [vz, tyf, d23, (ix24 o28), g33, n39, d104, w105, g107, n117, n118, e111, e112, e113, e114, e115, e116, H108, H109, H110, d119, d120, d121, nm, seval]
        refine opd_ret (x := (.lit (.int .i64 2))) (by first | (simp only [Tryz.results68, resV, resL, resV1, tgt_ptr, tgt_tp, uw, cr, tyf, d23, (ix24 o28), g33, n39, d104, w105, g107, n117, n118, e111, e112, e113, e114, e115, e116, H108, H109, H110, d119, d120, d121, nm, seval] <;> rfl) | rfl) ?_
        cases g123 : (roomOk 8 (List.length (([] : List Int) ++ [2])))
        ·simp only [g123, hs, reduceCtorEq] at h
         exact absurd h kN32
        simp only [g123, hs, reduceCtorEq] at h
        simp only [vz, tyf, d23, (ix24 o28), g33, n39, d104, w105, g107, n117, n118, H108, H109, H110, d119, d120, d121, e35, e36, e37, e38, g123, nm, seval]
        refine k_appN (w := 1) (enc := eI) (ys := ([2])) (el2 := (some 34)) (fun _ => rfl) lf54 ao54 Tryz.underlying54 (by first | rfl | assumption | (simp only [updH_apply, without_apply, et54, n39, n117, n118, H108, H109, H110, nm, seval] <;> rfl) | (simp only [updH_apply, without_apply, cellsL_cons, cellsL_nil, mV_app, mV_app0, tyf, d23, (ix24 o28), g33, n39, d104, w105, g107, n117, n118, H108, H109, H110, d119, d120, d121, e35, e36, e37, e38, g123, nm, seval]; done)) (Nat.zero_lt_succ _) g123 ?_
        simp only [vz, tyf, d23, (ix24 o28), g33, n39, d104, w105, g107, n117, n118, H108, H109, H110, d119, d120, d121, e35, e36, e37, e38, g123, nm, seval]
        exact ⟨p32, Nat.lt_succ_self _, by rw [hI32]; refine ⟨p32, c32_29 + 1, (([] : List Int) ++ [2]), .ref (nx32 + 9) 0 (List.length (([] : List Int) ++ [2])) 1 (List.length (([] : List Int) ++ [2])), rfl, cnt_lo hi32, cnt_next hp32, rfl, (show 26 ≤ nx106 + 8 by omega), ?_, e35, e36, ?_, ?_, Or.inl ⟨nx32 + 9, (some 34), rfl, (by first | omega | (simp only [nm, seval]; omega)), (by first | omega | (intro hh; simp only [n39, n117, n118, reduceCtorEq] at hh)), ?_⟩, h⟩ <;> first | (simp only [ua, d23, n39, d104, w105, n117, n118, H108, H109, H110, d119, d120, d121, e35, e36, e37, e38, nm, seval] <;> rfl) | rfl⟩
       simp only [d120, hs, reduceCtorEq] at h
       simp only [vz, tyf, d23, (ix24 o28), g33, n39, d104, w105, g107, n117, n118, e111, e112, e113, e114, e115, e116, H108, H109, H110, d119, d120, nm, seval]
       refine opd_ret (x := (.lit (.int .i64 3))) (by first | (simp only [Tryz.results68, resV, resL, resV1, tgt_ptr, tgt_tp, uw, cr, tyf, d23, (ix24 o28), g33, n39, d104, w105, g107, n117, n118, e111, e112, e113, e114, e115, e116, H108, H109, H110, d119, d120, nm, seval] <;> rfl) | rfl) ?_
       cases g124 : (roomOk 8 (List.length (([] : List Int) ++ [3])))
       ·simp only [g124, hs, reduceCtorEq] at h
        exact absurd h kN32
       simp only [g124, hs, reduceCtorEq] at h
       simp only [vz, tyf, d23, (ix24 o28), g33, n39, d104, w105, g107, n117, n118, H108, H109, H110, d119, d120, e35, e36, e37, e38, g124, nm, seval]
       refine k_appN (w := 1) (enc := eI) (ys := ([3])) (el2 := (some 34)) (fun _ => rfl) lf54 ao54 Tryz.underlying54 (by first | rfl | assumption | (simp only [updH_apply, without_apply, et54, n39, n117, n118, H108, H109, H110, nm, seval] <;> rfl) | (simp only [updH_apply, without_apply, cellsL_cons, cellsL_nil, mV_app, mV_app0, tyf, d23, (ix24 o28), g33, n39, d104, w105, g107, n117, n118, H108, H109, H110, d119, d120, e35, e36, e37, e38, g124, nm, seval]; done)) (Nat.zero_lt_succ _) g124 ?_
       simp only [vz, tyf, d23, (ix24 o28), g33, n39, d104, w105, g107, n117, n118, H108, H109, H110, d119, d120, e35, e36, e37, e38, g124, nm, seval]
       exact ⟨p32, Nat.lt_succ_self _, by rw [hI32]; refine ⟨p32, c32_29 + 1, (([] : List Int) ++ [3]), .ref (nx32 + 9) 0 (List.length (([] : List Int) ++ [3])) 1 (List.length (([] : List Int) ++ [3])), rfl, cnt_lo hi32, cnt_next hp32, rfl, (show 26 ≤ nx106 + 6 by omega), ?_, e35, e36, ?_, ?_, Or.inl ⟨nx32 + 9, (some 34), rfl, (by first | omega | (simp only [nm, seval]; omega)), (by first | omega | (intro hh; simp only [n39, n117, n118, reduceCtorEq] at hh)), ?_⟩, h⟩ <;> first | (simp only [ua, d23, n39, d104, w105, n117, n118, H108, H109, H110, d119, d120, e35, e36, e37, e38, nm, seval] <;> rfl) | rfl⟩
      | succ p106 =>
       have d125 : (decide (c106_20 < (IntKind.i64.wrap ((IntKind.i64.wrap (r29.SightStreet.Eye.High - r29.SightStreet.Eye.Low)) + 1)))) = true := cnt_lt hp106
       have w126 := cnt_wrap hi106 hp106 g107
       simp only [g_sight_Melts_l1, hs, reduceCtorEq] at h
       cases g128 : (boundOk (IntKind.i64.wrap ((IntKind.i64.wrap (r29.SightStreet.Light.High - r29.SightStreet.Light.Low)) + 1)))
       ·simp only [g128, hs, reduceCtorEq] at h
        exact absurd h kN106
       simp only [g128, hs, reduceCtorEq] at h
       simp only [vz, tyf, d23, (ix24 o28), g33, n39, d104, w105, g107, n117, n118, e111, e112, e113, e114, e115, e116, H108, H109, H110, d125, w126, g128, nm, seval]
       obtain ⟨K127, h, kR127, kG127, kB127, kN127⟩ := lbind_intro h kN106
       obtain ⟨f127, hf127, h⟩ := call5 h
       obtain ⟨I127, hI127⟩ : ∃ I : Nat → St → Prop, I = (fun m st => ∃ (p127 : Nat) (c127_33 : Int) (c127_5 : Bool) (c127_6 : Bool) (c127_o0 : Int), p127 = m ∧ loOk c127_33 = true ∧ Int.toNat ((IntKind.i64.wrap ((IntKind.i64.wrap (r29.SightStreet.Light.High - r29.SightStreet.Light.Low)) + 1)) - c127_33) = p127 ∧ st.df = [] ∧ nx106 + 14 ≤ st.nx ∧ st.H 17 = some (.cells (some 97) (cGsightview r29)) ∧ st.H (nx32 + 2) = some (.cells (some 3) ([.lit (.int .i64 c32_29)])) ∧ st.H (nx32 + 11) = some (.cells (some 97) ((cGSightStreet r29.SightStreet) ++ (cGSightPlace r29.SightPlace) ++ (cGSightBoard r29.board) ++ [.lit (.int .i64 c127_o0)])) ∧ st.tm 1 = .fn (.func 71) [] [.ptr (nx32 + 2) 0] ∧ st.tm 2 = .ptr (nx32 + 11) 0 ∧ st.tm 7 = .lit (.int .i64 c106_20) ∧ st.tm 19 = .lit (.int .i64 (IntKind.i64.wrap ((IntKind.i64.wrap (r29.SightStreet.Eye.High - r29.SightStreet.Eye.Low)) + 1))) ∧ st.tm 20 = .lit (.int .i64 c106_20) ∧ st.tm 32 = .lit (.int .i64 (IntKind.i64.wrap ((IntKind.i64.wrap (r29.SightStreet.Light.High - r29.SightStreet.Light.Low)) + 1))) ∧ st.tm 5 = .lit (.bool c127_5) ∧ st.tm 6 = .lit (.bool c127_6) ∧ st.tm 33 = .lit (.int .i64 c127_33) ∧ K127 (f127 p127 c127_33 c127_5 c127_6 c127_o0)) := ⟨_, rfl⟩
       refine loopK mixed (by kernel_rfl) I127 (Int.toNat ((IntKind.i64.wrap ((IntKind.i64.wrap (r29.SightStreet.Light.High - r29.SightStreet.Light.Low)) + 1)) - 0)) (by rw [hI127]; refine ⟨Int.toNat ((IntKind.i64.wrap ((IntKind.i64.wrap (r29.SightStreet.Light.High - r29.SightStreet.Light.Low)) + 1)) - 0), 0, c106_5, c106_6, c106_o0, rfl, (by rfl), rfl, rfl, (show nx106 + 14 ≤ nx106 + 14 by omega), ?_, ?_, ?_, e111, e112, ?_, e113, e116, ?_, e114, e115, ?_, h⟩ <;> first | (simp only [ua, d23, n39, d104, w105, n117, n118, e111, e112, e113, e114, e115, e116, H108, H109, H110, d125, w126, nm, seval] <;> rfl) | rfl) ?_
       rintro m ⟨tm, H, nx127, df⟩ hinv
       rw [hI127] at hinv
       obtain ⟨p127, c127_33, c127_5, c127_6, c127_o0, rfl, hi127, hp127, hdf, hn127, H129, H130, H131, e132, e133, e134, e135, e136, e137, e138, e139, e140, h⟩ := hinv
       simp only at hdf hn127 H129 H130 H131 e132 e133 e134 e135 e136 e137 e138 e139 e140
       have n141 := base_ne0 (m := 26) (b := nx127) (by omega)
       have n142 := base_ne (a := nx32) (m := 26) (b := nx127) (by omega)
       have n143 := base_ne (a := nx106) (m := 14) (b := nx127) (by omega)
       subst hdf hf127
       cases p127 with
       | zero =>
        have d144 : (decide (c127_33 < (IntKind.i64.wrap ((IntKind.i64.wrap (r29.SightStreet.Light.High - r29.SightStreet.Light.Low)) + 1)))) = false := cnt_not_lt hp127
        simp only [g_sight_Melts_l2, hs, reduceCtorEq] at h
        replace h := kG127 _ h
        try dsimp only at h
        try simp only [hs] at h
        simp only [vz, tyf, d23, (ix24 o28), g33, n39, d104, w105, g107, n117, n118, d125, w126, g128, n141, n142, n143, e132, e133, e134, e135, e136, e137, e138, e139, e140, H129, H130, H131, d144, nm, seval]
        exact ⟨p106, Nat.lt_succ_self _, by rw [hI106]; refine ⟨p106, c106_20 + 1, c127_5, c127_6, c127_o0, rfl, cnt_lo hi106, cnt_next hp106, rfl, (show nx32 + 26 ≤ nx127 + 3 by omega), ?_, ?_, ?_, e132, e133, e135, e138, e139, ?_, h⟩ <;> first | (simp only [ua, d23, n39, d104, w105, n117, n118, d125, w126, n141, n142, n143, e132, e133, e134, e135, e136, e137, e138, e139, e140, H129, H130, H131, d144, nm, seval] <;> rfl) | rfl⟩
       | succ p127 =>
        have d145 : (decide (c127_33 < (IntKind.i64.wrap ((IntKind.i64.wrap (r29.SightStreet.Light.High - r29.SightStreet.Light.Low)) + 1)))) = true := cnt_lt hp127
        have w146 := cnt_wrap hi127 hp127 g128
        simp only [g_sight_Melts_l2, hs, reduceCtorEq] at h
        simp only [vz, tyf, d23, (ix24 o28), g33, n39, d104, w105, g107, n117, n118, d125, w126, g128, n141, n142, n143, e132, e133, e134, e135, e136, e137, e138, e139, e140, H129, H130, H131, d145, w146, nm, seval]
        refine kopen ?_
        rw [openK_eq]
        refine VOpen.run mixed Tryz.call71 Tryz.func71 rfl (by simp [Tryz.ntmps71]; kernel_rfl) ?_
        cases o148 : (g_sight_view_isApart (Gsightview.mk r29.SightStreet r29.SightPlace r29.board (IntKind.i64.wrap ((IntKind.i64.wrap (r29.SightStreet.Eye.Low + c106_20)) * (IntKind.i64.wrap (r29.SightStreet.Light.Low + c127_33))))) c32_29) with
        | none =>
         simp only [o148, hs, reduceCtorEq] at h
         exact absurd h kN127
        | some r147 =>
         simp only [o148, hs, reduceCtorEq] at h
         simp only [vz, tyf, d23, (ix24 o28), g33, n39, d104, w105, g107, n117, n118, d125, w126, g128, n141, n142, n143, H129, H130, H131, d145, w146, nm, seval]
         refine ktree (args0 := [.agg (cGsightview (Gsightview.mk r29.SightStreet r29.SightPlace r29.board (IntKind.i64.wrap ((IntKind.i64.wrap (r29.SightStreet.Eye.Low + c106_20)) * (IntKind.i64.wrap (r29.SightStreet.Light.Low + c127_33)))))), .lit (.int .i64 c32_29)]) (by first | (simp only [nrm, tynrm] <;> rfl) | rfl) (by simp only [tre, tytre, Bool.and_self]) (g_sight_view_isApart_ok _ _ _ o148) ?_
         refine fin_cut (fun tm => tm 6 = .lit (.bool r147) ∧ True) (by refine ⟨?_, trivial⟩ <;> first | (simp only [ua, d23, n39, d104, w105, n117, n118, d125, w126, n141, n142, n143, H129, H130, H131, d145, w146, nm, seval] <;> rfl) | rfl) ?_
         rintro tm ⟨e149, _⟩
         simp only [vz, tyf, d23, (ix24 o28), g33, n39, d104, w105, g107, n117, n118, d125, w126, g128, n141, n142, n143, H129, H130, H131, d145, w146, e149, nm, seval]
         refine opd_ret (x := (.lit (.bool (!r147)))) (by first | (simp only [Tryz.results71, resV, resL, resV1, tgt_ptr, tgt_tp, uw, cr, tyf, d23, (ix24 o28), g33, n39, d104, w105, g107, n117, n118, d125, w126, g128, n141, n142, n143, H129, H130, H131, d145, w146, e149, nm, seval] <;> rfl) | rfl) ?_
         cases d150 : (c127_5)
         ·simp only [d150, hs, reduceCtorEq] at h
          cases d151 : (c127_6)
          ·simp only [d151, hs, reduceCtorEq] at h
           cases d152 : (r147)
           ·simp only [d152, hs, reduceCtorEq] at h
            replace h := kB127 _ _ h
            try dsimp only at h
            try simp only [hs] at h
            replace h := kG106 _ h
            try dsimp only at h
            try simp only [hs] at h
            simp only [vz, tyf, d23, (ix24 o28), g33, n39, d104, w105, g107, n117, n118, d125, w126, g128, n141, n142, n143, H129, H130, H131, d145, w146, e132, e133, e134, e135, e136, e137, e138, e139, e140, d150, d151, d152, nm, seval]
            refine opd_ret (x := (.lit (.int .i64 2))) (by first | (simp only [Tryz.results68, resV, resL, resV1, tgt_ptr, tgt_tp, uw, cr, tyf, d23, (ix24 o28), g33, n39, d104, w105, g107, n117, n118, d125, w126, g128, n141, n142, n143, H129, H130, H131, d145, w146, e132, e133, e134, e135, e136, e137, e138, e139, e140, d150, d151, d152, nm, seval] <;> rfl) | rfl) ?_
            cases g153 : (roomOk 8 (List.length (([] : List Int) ++ [2])))
            ·simp only [g153, hs, reduceCtorEq] at h
             exact absurd h kN32
            simp only [g153, hs, reduceCtorEq] at h
            simp only [vz, tyf, d23, (ix24 o28), g33, n39, d104, w105, g107, n117, n118, d125, w126, g128, n141, n142, n143, H129, H130, H131, d145, w146, d150, d151, d152, e35, e36, e37, e38, g153, nm, seval]
            refine k_appN (w := 1) (enc := eI) (ys := ([2])) (el2 := (some 34)) (fun _ => rfl) lf54 ao54 Tryz.underlying54 (by first | rfl | assumption | (simp only [updH_apply, without_apply, et54, n39, n117, n118, n141, n142, n143, H129, H130, H131, nm, seval] <;> rfl) | (simp only [updH_apply, without_apply, cellsL_cons, cellsL_nil, mV_app, mV_app0, tyf, d23, (ix24 o28), g33, n39, d104, w105, g107, n117, n118, d125, w126, g128, n141, n142, n143, H129, H130, H131, d145, w146, d150, d151, d152, e35, e36, e37, e38, g153, nm, seval]; done)) (Nat.zero_lt_succ _) g153 ?_
            simp only [vz, tyf, d23, (ix24 o28), g33, n39, d104, w105, g107, n117, n118, d125, w126, g128, n141, n142, n143, H129, H130, H131, d145, w146, d150, d151, d152, e35, e36, e37, e38, g153, nm, seval]
            exact ⟨p32, Nat.lt_succ_self _, by rw [hI32]; refine ⟨p32, c32_29 + 1, (([] : List Int) ++ [2]), .ref (nx32 + 9) 0 (List.length (([] : List Int) ++ [2])) 1 (List.length (([] : List Int) ++ [2])), rfl, cnt_lo hi32, cnt_next hp32, rfl, (show 26 ≤ nx127 + 51 by omega), ?_, e35, e36, ?_, ?_, Or.inl ⟨nx32 + 9, (some 34), rfl, (by first | omega | (simp only [nm, seval]; omega)), (by first | omega | (intro hh; simp only [n39, n117, n118, n141, n142, n143, reduceCtorEq] at hh)), ?_⟩, h⟩ <;> first | (simp only [ua, d23, n39, d104, w105, n117, n118, d125, w126, n141, n142, n143, H129, H130, H131, d145, w146, d150, d151, d152, e35, e36, e37, e38, nm, seval] <;> rfl) | rfl⟩
           simp only [d152, hs, reduceCtorEq] at h
           simp only [vz, tyf, d23, (ix24 o28), g33, n39, d104, w105, g107, n117, n118, d125, w126, g128, n141, n142, n143, H129, H130, H131, d145, w146, e132, e133, e134, e135, e136, e137, e138, e139, e140, d150, d151, d152, nm, seval]
           exact ⟨p127, Nat.lt_succ_self _, by rw [hI127]; refine ⟨p127, c127_33 + 1, false, false, IntKind.i64.wrap ((IntKind.i64.wrap (r29.SightStreet.Eye.Low + c106_20)) * (IntKind.i64.wrap (r29.SightStreet.Light.Low + c127_33))), rfl, cnt_lo hi127, cnt_next hp127, rfl, (show nx106 + 14 ≤ nx127 + 46 by omega), ?_, ?_, ?_, e132, e133, e134, e135, e136, e137, ?_, ?_, ?_, h⟩ <;> first | (simp only [ua, d23, n39, d104, w105, n117, n118, d125, w126, n141, n142, n143, H129, H130, H131, d145, w146, e132, e133, e134, e135, e136, e137, e138, e139, e140, d150, d151, d152, nm, seval] <;> rfl) | rfl⟩
          simp only [d151, hs, reduceCtorEq] at h
          replace h := kB127 _ _ h
          try dsimp only at h
          try simp only [hs] at h
          replace h := kG106 _ h
          try dsimp only at h
          try simp only [hs] at h
          simp only [vz, tyf, d23, (ix24 o28), g33, n39, d104, w105, g107, n117, n118, d125, w126, g128, n141, n142, n143, H129, H130, H131, d145, w146, e132, e133, e134, e135, e136, e137, e138, e139, e140, d150, d151, nm, seval]
          refine opd_ret (x := (.lit (.int .i64 2))) (by first | (simp only [Tryz.results68, resV, resL, resV1, tgt_ptr, tgt_tp, uw, cr, tyf, d23, (ix24 o28), g33, n39, d104, w105, g107, n117, n118, d125, w126, g128, n141, n142, n143, H129, H130, H131, d145, w146, e132, e133, e134, e135, e136, e137, e138, e139, e140, d150, d151, nm, seval] <;> rfl) | rfl) ?_
          cases g154 : (roomOk 8 (List.length (([] : List Int) ++ [2])))
          ·simp only [g154, hs, reduceCtorEq] at h
           exact absurd h kN32
          simp only [g154, hs, reduceCtorEq] at h
          simp only [vz, tyf, d23, (ix24 o28), g33, n39, d104, w105, g107, n117, n118, d125, w126, g128, n141, n142, n143, H129, H130, H131, d145, w146, d150, d151, e35, e36, e37, e38, g154, nm, seval]
          refine k_appN (w := 1) (enc := eI) (ys := ([2])) (el2 := (some 34)) (fun _ => rfl) lf54 ao54 Tryz.underlying54 (by first | rfl | assumption | (simp only [updH_apply, without_apply, et54, n39, n117, n118, n141, n142, n143, H129, H130, H131, nm, seval] <;> rfl) | (simp only [updH_apply, without_apply, cellsL_cons, cellsL_nil, mV_app, mV_app0, tyf, d23, (ix24 o28), g33, n39, d104, w105, g107, n117, n118, d125, w126, g128, n141, n142, n143, H129, H130, H131, d145, w146, d150, d151, e35, e36, e37, e38, g154, nm, seval]; done)) (Nat.zero_lt_succ _) g154 ?_
          simp only [vz, tyf, d23, (ix24 o28), g33, n39, d104, w105, g107, n117, n118, d125, w126, g128, n141, n142, n143, H129, H130, H131, d145, w146, d150, d151, e35, e36, e37, e38, g154, nm, seval]
          exact ⟨p32, Nat.lt_succ_self _, by rw [hI32]; refine ⟨p32, c32_29 + 1, (([] : List Int) ++ [2]), .ref (nx32 + 9) 0 (List.length (([] : List Int) ++ [2])) 1 (List.length (([] : List Int) ++ [2])), rfl, cnt_lo hi32, cnt_next hp32, rfl, (show 26 ≤ nx127 + 51 by omega), ?_, e35, e36, ?_, ?_, Or.inl ⟨nx32 + 9, (some 34), rfl, (by first | omega | (simp only [nm, seval]; omega)), (by first | omega | (intro hh; simp only [n39, n117, n118, n141, n142, n143, reduceCtorEq] at hh)), ?_⟩, h⟩ <;> first | (simp only [ua, d23, n39, d104, w105, n117, n118, d125, w126, n141, n142, n143, H129, H130, H131, d145, w146, d150, d151, e35, e36, e37, e38, nm, seval] <;> rfl) | rfl⟩
         simp only [d150, hs, reduceCtorEq] at h
         cases d155 : (c127_6)
         ·simp only [d155, hs, reduceCtorEq] at h
          cases d156 : (r147)
          ·simp only [d156, hs, reduceCtorEq] at h
           simp only [vz, tyf, d23, (ix24 o28), g33, n39, d104, w105, g107, n117, n118, d125, w126, g128, n141, n142, n143, H129, H130, H131, d145, w146, e132, e133, e134, e135, e136, e137, e138, e139, e140, d150, d155, d156, nm, seval]
           exact ⟨p127, Nat.lt_succ_self _, by rw [hI127]; refine ⟨p127, c127_33 + 1, true, true, IntKind.i64.wrap ((IntKind.i64.wrap (r29.SightStreet.Eye.Low + c106_20)) * (IntKind.i64.wrap (r29.SightStreet.Light.Low + c127_33))), rfl, cnt_lo hi127, cnt_next hp127, rfl, (show nx106 + 14 ≤ nx127 + 46 by omega), ?_, ?_, ?_, e132, e133, e134, e135, e136, e137, ?_, ?_, ?_, h⟩ <;> first | (simp only [ua, d23, n39, d104, w105, n117, n118, d125, w126, n141, n142, n143, H129, H130, H131, d145, w146, e132, e133, e134, e135, e136, e137, e138, e139, e140, d150, d155, d156, nm, seval] <;> rfl) | rfl⟩
          simp only [d156, hs, reduceCtorEq] at h
          simp only [vz, tyf, d23, (ix24 o28), g33, n39, d104, w105, g107, n117, n118, d125, w126, g128, n141, n142, n143, H129, H130, H131, d145, w146, e132, e133, e134, e135, e136, e137, e138, e139, e140, d150, d155, d156, nm, seval]
          exact ⟨p127, Nat.lt_succ_self _, by rw [hI127]; refine ⟨p127, c127_33 + 1, false, false, IntKind.i64.wrap ((IntKind.i64.wrap (r29.SightStreet.Eye.Low + c106_20)) * (IntKind.i64.wrap (r29.SightStreet.Light.Low + c127_33))), rfl, cnt_lo hi127, cnt_next hp127, rfl, (show nx106 + 14 ≤ nx127 + 46 by omega), ?_, ?_, ?_, e132, e133, e134, e135, e136, e137, ?_, ?_, ?_, h⟩ <;> first | (simp only [ua, d23, n39, d104, w105, n117, n118, d125, w126, n141, n142, n143, H129, H130, H131, d145, w146, e132, e133, e134, e135, e136, e137, e138, e139, e140, d150, d155, d156, nm, seval] <;> rfl) | rfl⟩
         simp only [d155, hs, reduceCtorEq] at h
         cases d157 : (r147)
         ·simp only [d157, hs, reduceCtorEq] at h
          simp only [vz, tyf, d23, (ix24 o28), g33, n39, d104, w105, g107, n117, n118, d125, w126, g128, n141, n142, n143, H129, H130, H131, d145, w146, e132, e133, e134, e135, e136, e137, e138, e139, e140, d150, d155, d157, nm, seval]
          exact ⟨p127, Nat.lt_succ_self _, by rw [hI127]; refine ⟨p127, c127_33 + 1, true, true, IntKind.i64.wrap ((IntKind.i64.wrap (r29.SightStreet.Eye.Low + c106_20)) * (IntKind.i64.wrap (r29.SightStreet.Light.Low + c127_33))), rfl, cnt_lo hi127, cnt_next hp127, rfl, (show nx106 + 14 ≤ nx127 + 46 by omega), ?_, ?_, ?_, e132, e133, e134, e135, e136, e137, ?_, ?_, ?_, h⟩ <;> first | (simp only [ua, d23, n39, d104, w105, n117, n118, d125, w126, n141, n142, n143, H129, H130, H131, d145, w146, e132, e133, e134, e135, e136, e137, e138, e139, e140, d150, d155, d157, nm, seval] <;> rfl) | rfl⟩
         simp only [d157, hs, reduceCtorEq] at h
         replace h := kB127 _ _ h
         try dsimp only at h
         try simp only [hs] at h
         replace h := kG106 _ h
         try dsimp only at h
         try simp only [hs] at h
         simp only [vz, tyf, d23, (ix24 o28), g33, n39, d104, w105, g107, n117, n118, d125, w126, g128, n141, n142, n143, H129, H130, H131, d145, w146, e132, e133, e134, e135, e136, e137, e138, e139, e140, d150, d155, d157, nm, seval]
         refine opd_ret (x := (.lit (.int .i64 2))) (by first | (simp only [Tryz.results68, resV, resL, resV1, tgt_ptr, tgt_tp, uw, cr, tyf, d23, (ix24 o28), g33, n39, d104, w105, g107, n117, n118, d125, w126, g128, n141, n142, n143, H129, H130, H131, d145, w146, e132, e133, e134, e135, e136, e137, e138, e139, e140, d150, d155, d157, nm, seval] <;> rfl) | rfl) ?_
         cases g158 : (roomOk 8 (List.length (([] : List Int) ++ [2])))
         ·simp only [g158, hs, reduceCtorEq] at h
          exact absurd h kN32
         simp only [g158, hs, reduceCtorEq] at h
         simp only [vz, tyf, d23, (ix24 o28), g33, n39, d104, w105, g107, n117, n118, d125, w126, g128, n141, n142, n143, H129, H130, H131, d145, w146, d150, d155, d157, e35, e36, e37, e38, g158, nm, seval]
         refine k_appN (w := 1) (enc := eI) (ys := ([2])) (el2 := (some 34)) (fun _ => rfl) lf54 ao54 Tryz.underlying54 (by first | rfl | assumption | (simp only [updH_apply, without_apply, et54, n39, n117, n118, n141, n142, n143, H129, H130, H131, nm, seval] <;> rfl) | (simp only [updH_apply, without_apply, cellsL_cons, cellsL_nil, mV_app, mV_app0, tyf, d23, (ix24 o28), g33, n39, d104, w105, g107, n117, n118, d125, w126, g128, n141, n142, n143, H129, H130, H131, d145, w146, d150, d155, d157, e35, e36, e37, e38, g158, nm, seval]; done)) (Nat.zero_lt_succ _) g158 ?_
         simp only [vz, tyf, d23, (ix24 o28), g33, n39, d104, w105, g107, n117, n118, d125, w126, g128, n141, n142, n143, H129, H130, H131, d145, w146, d150, d155, d157, e35, e36, e37, e38, g158, nm, seval]
         exact ⟨p32, Nat.lt_succ_self _, by rw [hI32]; refine ⟨p32, c32_29 + 1, (([] : List Int) ++ [2]), .ref (nx32 + 9) 0 (List.length (([] : List Int) ++ [2])) 1 (List.length (([] : List Int) ++ [2])), rfl, cnt_lo hi32, cnt_next hp32, rfl, (show 26 ≤ nx127 + 51 by omega), ?_, e35, e36, ?_, ?_, Or.inl ⟨nx32 + 9, (some 34), rfl, (by first | omega | (simp only [nm, seval]; omega)), (by first | omega | (intro hh; simp only [n39, n117, n118, n141, n142, n143, reduceCtorEq] at hh)), ?_⟩, h⟩ <;> first | (simp only [ua, d23, n39, d104, w105, n117, n118, d125, w126, n141, n142, n143, H129, H130, H131, d145, w146, d150, d155, d157, e35, e36, e37, e38, nm, seval] <;> rfl) | rfl⟩
end Go.V
end
