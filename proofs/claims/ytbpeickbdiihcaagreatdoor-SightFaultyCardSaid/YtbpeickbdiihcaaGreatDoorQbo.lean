/- Part of a proof: a logic of values by content, lifted functions, what follows. -/
import Derived.Test.YtbpeickbdiihcaaGreatDoorQbf
import Derived.Test.YtbpeickbdiihcaaGreatDoorQbi
import Derived.Test.YtbpeickbdiihcaaGreatDoorQbj
import Derived.Test.YtbpeickbdiihcaaGreatDoorQbl
set_option linter.all false
set_option maxRecDepth 4000
set_option maxHeartbeats 4000000
section
namespace Go.V
open Go Go.Proofs
def g_sight_Melts_l2 (r3 : Gsightview) (c0_29 : Int) (c1_20 : Int) : Nat → Int → Bool → Bool → Int → Option (LOut (Int) (Bool × Bool × Int))
 | 0, c2_33, c2_5, c2_6, c2_o0 => some (.go (c2_5, c2_6, c2_o0))
 | k2 + 1, c2_33, c2_5, c2_6, c2_o0 => Option.bind (g_sight_view_isApart (Gsightview.mk r3.SightStreet r3.SightPlace r3.board (IntKind.i64.wrap ((IntKind.i64.wrap (r3.SightStreet.Eye.Low + c1_20)) * (IntKind.i64.wrap (r3.SightStreet.Light.Low + c2_33))))) c0_29) (fun r9 => cond (c2_5) (cond (c2_6) (cond (r9) (some (.brk 0 (false, true, IntKind.i64.wrap ((IntKind.i64.wrap (r3.SightStreet.Eye.Low + c1_20)) * (IntKind.i64.wrap (r3.SightStreet.Light.Low + c2_33)))))) (g_sight_Melts_l2 r3 c0_29 c1_20 k2 (c2_33 + 1) true true (IntKind.i64.wrap ((IntKind.i64.wrap (r3.SightStreet.Eye.Low + c1_20)) * (IntKind.i64.wrap (r3.SightStreet.Light.Low + c2_33)))))) (cond (r9) (g_sight_Melts_l2 r3 c0_29 c1_20 k2 (c2_33 + 1) false false (IntKind.i64.wrap ((IntKind.i64.wrap (r3.SightStreet.Eye.Low + c1_20)) * (IntKind.i64.wrap (r3.SightStreet.Light.Low + c2_33))))) (g_sight_Melts_l2 r3 c0_29 c1_20 k2 (c2_33 + 1) true true (IntKind.i64.wrap ((IntKind.i64.wrap (r3.SightStreet.Eye.Low + c1_20)) * (IntKind.i64.wrap (r3.SightStreet.Light.Low + c2_33))))))) (cond (c2_6) (some (.brk 0 (false, true, IntKind.i64.wrap ((IntKind.i64.wrap (r3.SightStreet.Eye.Low + c1_20)) * (IntKind.i64.wrap (r3.SightStreet.Light.Low + c2_33)))))) (cond (r9) (g_sight_Melts_l2 r3 c0_29 c1_20 k2 (c2_33 + 1) false false (IntKind.i64.wrap ((IntKind.i64.wrap (r3.SightStreet.Eye.Low + c1_20)) * (IntKind.i64.wrap (r3.SightStreet.Light.Low + c2_33))))) (some (.brk 0 (false, true, IntKind.i64.wrap ((IntKind.i64.wrap (r3.SightStreet.Eye.Low + c1_20)) * (IntKind.i64.wrap (r3.SightStreet.Light.Low + c2_33)))))))))
def g_sight_Melts_l1 (r3 : Gsightview) (c0_29 : Int) : Nat → Int → Bool → Bool → Int → Option (LOut (Int) (Bool × Bool × Int))
 | 0, c1_20, c1_5, c1_6, c1_o0 => some (.go (c1_5, c1_6, c1_o0))
 | k1 + 1, c1_20, c1_5, c1_6, c1_o0 => cond (boundOk (IntKind.i64.wrap ((IntKind.i64.wrap (r3.SightStreet.Light.High - r3.SightStreet.Light.Low)) + 1))) (lbind (g_sight_Melts_l2 r3 c0_29 c1_20 (Int.toNat ((IntKind.i64.wrap ((IntKind.i64.wrap (r3.SightStreet.Light.High - r3.SightStreet.Light.Low)) + 1)) - 0)) 0 c1_5 c1_6 c1_o0) (fun r11 => some (.ret r11)) (fun c10 => g_sight_Melts_l1 r3 c0_29 k1 (c1_20 + 1) c10.1 c10.2.1 c10.2.2) (fun _ c12 => some (.go (c12.1, c12.2.1, c12.2.2)))) none
def g_sight_Melts_l0 (r3 : Gsightview) : Nat → Int → (List Int) → Option (LOut ((List Int) × Int) ((List Int)))
 | 0, c0_29, c0_9 => some (.go c0_9)
 | k0 + 1, c0_29, c0_9 => cond (boundOk (IntKind.i64.wrap ((IntKind.i64.wrap (r3.SightStreet.Eye.High - r3.SightStreet.Eye.Low)) + 1))) (lbind (g_sight_Melts_l1 r3 c0_29 (Int.toNat ((IntKind.i64.wrap ((IntKind.i64.wrap (r3.SightStreet.Eye.High - r3.SightStreet.Eye.Low)) + 1)) - 0)) 0 true false r3.power) (fun r14 => cond (roomOk 8 (List.length (c0_9 ++ [r14]))) (g_sight_Melts_l0 r3 k0 (c0_29 + 1) (c0_9 ++ [r14])) none) (fun c13 => cond (c13.1) (cond (roomOk 8 (List.length (c0_9 ++ [3]))) (g_sight_Melts_l0 r3 k0 (c0_29 + 1) (c0_9 ++ [3])) none) (cond (c13.2.1) (cond (roomOk 8 (List.length (c0_9 ++ [2]))) (g_sight_Melts_l0 r3 k0 (c0_29 + 1) (c0_9 ++ [2])) none) (cond (roomOk 8 (List.length (c0_9 ++ [1]))) (g_sight_Melts_l0 r3 k0 (c0_29 + 1) (c0_9 ++ [1])) none))) (fun _ _ => none)) none
def g_sight_Melts (x0_s : GSightStreet) (x1_board : Int) (x2_from : GSightPlace) : Option ((List Int) × Int) := Option.bind (g_sight_isView x0_s x1_board x2_from) (fun r1 => cond (r1) (Option.bind (getI x0_s.Boards x1_board) (fun x2 => Option.bind (g_sight_atWorst x0_s x2 x2_from) (fun r3 => cond (boundOk (IntKind.i64.wrap ((List.length r3.board.Letters : Int) - 1))) (lbind (g_sight_Melts_l0 r3 (Int.toNat ((IntKind.i64.wrap ((List.length r3.board.Letters : Int) - 1)) - 0)) 0 ([] : List Int)) (fun r16 => some r16) (fun c15 => some (c15, 0)) (fun _ _ => none)) none))) (some (([] : List Int), 2)))
theorem g_sight_Melts_ok (x0_s : GSightStreet) (x1_board : Int) (x2_from : GSightPlace) (R : (List Int) × Int) (h : g_sight_Melts x0_s x1_board x2_from = some R) : VPure Tryz.prog G0 29 [.agg (cGSightStreet x0_s), .lit (.int .i64 x1_board), .agg (cGSightPlace x2_from)] (.tree (.tup [.sl (cellsL eI R.1) (List.length R.1) false, .lit (.int .i64 R.2)])) := by
 refine VPure.runR mixed Tryz.call29 Tryz.func29 rfl (by simp [Tryz.ntmps29]; kernel_rfl) ?_
 obtain ⟨KF, h, kF, kN⟩ := fun_intro h
 simp only [g_sight_Melts] at h
 cases o18 : (g_sight_isView x0_s x1_board x2_from) with
 | none =>
  simp only [o18, hs, reduceCtorEq] at h
  exact absurd h kN
 | some r17 =>
  simp only [o18, hs, reduceCtorEq] at h
  simp only [vz, tyf, nm, seval]
  refine ktree (args0 := [.agg (cGSightStreet x0_s), .lit (.int .i64 x1_board), .agg (cGSightPlace x2_from)]) (by first | (simp only [nrm, tynrm] <;> rfl) | rfl) (by simp only [tre, tytre, Bool.and_self]) (g_sight_isView_ok _ _ _ _ o18) ?_
  refine fin_cut (fun tm => tm 1 = .lit (.int .i64 x1_board) ∧ tm 3 = .ptr 0 0 ∧ tm 5 = .ptr 1 0 ∧ tm 14 = .lit (.bool r17) ∧ True) (by refine ⟨?_, ?_, ?_, ?_, trivial⟩ <;> first | (simp only [ua, nm, seval] <;> rfl) | rfl) ?_
  rintro tm ⟨e19, e20, e21, e22, _⟩
  cases d23 : (r17)
  ·simp only [d23, hs, reduceCtorEq] at h
   simp only [vz, tyf, e19, e20, e21, e22, d23, nm, seval]
   refine opd_ret (x := (.tup [.lit (.slice none 0 0), .lit (.int .i64 2)])) (by first | (simp only [Tryz.results29, resV, resL, resV1, tgt_ptr, tgt_tp, uw, cr, tyf, d23, nm, seval] <;> rfl) | rfl) ?_
   obtain rfl := kF _ h
   refine rr_tree ?_ ?_
   ·simp only [tre, tytre, Bool.and_self]
   ·first | (simp only [outV, uw, showV_ref, cr, tyf, nrm, tynrm, e19, e20, e21, e22, d23, nm, seval] <;> rfl) | rfl
  simp only [d23, hs, reduceCtorEq] at h
  simp only [vz, tyf, e19, e20, e21, e22, d23, nm, seval]
  refine cwp_drawTF (fun tm => tm 1 = .lit (.int .i64 x1_board) ∧ tm 3 = .ptr 0 0 ∧ tm 5 = .ptr 1 0 ∧ True) (by refine ⟨e19, e20, e21, trivial⟩ <;> first | (simp only [ua, e19, e20, e21, e22, d23, nm, seval] <;> rfl) | rfl) ?_
  rintro tm ⟨e24, e25, e26, _⟩
  cases o28 : (getI x0_s.Boards x1_board) with
  | none =>
   simp only [o28, hs, reduceCtorEq] at h
   exact absurd h kN
  | some x27 =>
   simp only [o28, hs, reduceCtorEq] at h
   cases o30 : (g_sight_atWorst x0_s x27 x2_from) with
   | none =>
    simp only [o30, hs, reduceCtorEq] at h
    exact absurd h kN
   | some r29 =>
    simp only [o30, hs, reduceCtorEq] at h
    simp only [vz, tyf, d23, e24, e25, e26, (ix24 o28), nm, seval]
    refine dktree (args0 := [.agg (cGSightStreet x0_s), .agg (cGSightBoard x27), .agg (cGSightPlace x2_from)]) (by first | (simp only [nrm, tynrm] <;> rfl) | rfl) (by simp only [tre, tytre, Bool.and_self]) (g_sight_atWorst_ok _ _ _ _ o30) ?_
    refine fin_cut (fun tm => tm 23 = .agg (cGsightview r29) ∧ True) (by refine ⟨?_, trivial⟩ <;> first | (simp only [ua, d23, e24, e25, e26, nm, seval] <;> rfl) | rfl) ?_
    rintro tm ⟨e31, _⟩
    simp only [vz, tyf, d23, (ix24 o28), e31, nm, seval]
    refine drawK_nil ⟨?_, ?_⟩
    ·simp only [traceR_cons, traceR_nil, hitK_quiet, hitK_nil, and_true, true_and]
     repeat' (first | exact trivial | refine And.intro ?_ ?_ | rw [hitK_quiet] | rw [hitK_cons] | exact Or.inl (by decide +kernel) | exact Or.inl (by dsimp only; decide +kernel) | (refine Or.inr ⟨?_, ?_⟩ <;> simp; done) | (refine Or.inr ⟨?_, ?_⟩ <;> simp <;> omega))
    cases g33 : (boundOk (IntKind.i64.wrap ((List.length r29.board.Letters : Int) - 1)))
    ·simp only [g33, hs, reduceCtorEq] at h
     exact absurd h kN
    simp only [g33, hs, reduceCtorEq] at h
    simp only [vz, tyf, d23, (ix24 o28), e31, g33, nm, seval]
    obtain ⟨K32, h, kR32, kG32, kB32, kN32⟩ := lbind_intro h kN
    obtain ⟨f32, hf32, h⟩ := call3 h
    obtain ⟨I32, hI32⟩ : ∃ I : Nat → St → Prop, I = (fun m st => ∃ (p32 : Nat) (c32_29 : Int) (c32_9 : List Int) (y32_0 : VV), p32 = m ∧ loOk c32_29 = true ∧ Int.toNat ((IntKind.i64.wrap ((List.length r29.board.Letters : Int) - 1)) - c32_29) = p32 ∧ st.df = [] ∧ 26 ≤ st.nx ∧ st.H 17 = some (.cells (some 97) (cGsightview r29)) ∧ st.tm 8 = .ptr 17 0 ∧ st.tm 28 = .lit (.int .i64 (IntKind.i64.wrap ((List.length r29.board.Letters : Int) - 1))) ∧ st.tm 9 = y32_0 ∧ st.tm 29 = .lit (.int .i64 c32_29) ∧ ((∃ (β : Nat) (el : Option TypeId), y32_0 = .ref β 0 (List.length c32_9) 1 (List.length c32_9) ∧ β < st.nx ∧ β ≠ 17 ∧ st.H β = some (.cells el (cellsL eI c32_9))) ∨ (y32_0 = .lit (.slice none 0 0) ∧ c32_9 = [])) ∧ K32 (f32 p32 c32_29 c32_9)) := ⟨_, rfl⟩
    refine loopK mixed (by kernel_rfl) I32 (Int.toNat ((IntKind.i64.wrap ((List.length r29.board.Letters : Int) - 1)) - 0)) (by rw [hI32]; refine ⟨Int.toNat ((IntKind.i64.wrap ((List.length r29.board.Letters : Int) - 1)) - 0), 0, ([] : List Int), .lit (.slice none 0 0), rfl, (by rfl), rfl, rfl, (show 26 ≤ 26 by omega), ?_, ?_, ?_, ?_, ?_, Or.inr ⟨rfl, rfl⟩, h⟩ <;> first | (simp only [ua, d23, e31, nm, seval] <;> rfl) | rfl) ?_
    rintro m ⟨tm, H, nx32, df⟩ hinv
    rw [hI32] at hinv
    obtain ⟨p32, c32_29, c32_9, y32_0, rfl, hi32, hp32, hdf, hn32, H34, e35, e36, e37, e38, ow32_0, h⟩ := hinv
    simp only at hdf hn32 H34 e35 e36 e37 e38 ow32_0
    have n39 := base_ne0 (m := 26) (b := nx32) (by omega)
    subst hdf hf32
    rcases ow32_0 with ⟨b32_0, el32_0, rfl, lq41, lq42, H40⟩ | ⟨rfl, rfl⟩
    ·have q41 := own_lt lq41
     have q42 := ne_f lq42
     cases p32 with
     | zero =>
      have d43 : (decide (c32_29 < (IntKind.i64.wrap ((List.length r29.board.Letters : Int) - 1)))) = false := cnt_not_lt hp32
      simp only [g_sight_Melts_l0, hs, reduceCtorEq] at h
      replace h := kG32 _ h
      try dsimp only at h
      try simp only [hs] at h
      simp only [vz, tyf, d23, (ix24 o28), g33, n39, e35, e36, e37, e38, H34, q41, H40, q42, d43, nm, seval]
      refine opd_ret (x := (.tup [.ref b32_0 0 (List.length c32_9) 1 (List.length c32_9), .lit (.int .i64 0)])) (by first | (simp only [Tryz.results29, resV, resL, resV1, tgt_ptr, tgt_tp, uw, cr, tyf, d23, (ix24 o28), g33, n39, H34, q41, H40, q42, d43, nm, seval] <;> rfl) | rfl) ?_
      obtain rfl := kF _ h
      refine rr_tree ?_ ?_
      ·simp only [tre, tytre, Bool.and_self]
      ·first | (simp only [outV, uw, showV_ref, cr, tyf, nrm, tynrm, d23, (ix24 o28), g33, n39, e35, e36, e37, e38, H34, q41, H40, q42, d43, nm, seval] <;> rfl) | rfl
     | succ p32 =>
      have d44 : (decide (c32_29 < (IntKind.i64.wrap ((List.length r29.board.Letters : Int) - 1)))) = true := cnt_lt hp32
      have w45 := cnt_wrap hi32 hp32 g33
      simp only [g_sight_Melts_l0, hs, reduceCtorEq] at h
      simp only [vz, tyf, d23, (ix24 o28), g33, n39, e35, e36, e37, e38, H34, q41, H40, q42, d44, w45, nm, seval]
      refine kopen ?_
      rw [openK_eq]
      refine VOpen.run mixed Tryz.call68 Tryz.func68 rfl (by simp [Tryz.ntmps68]; kernel_rfl) ?_
      simp only [vz, tyf, d23, (ix24 o28), g33, n39, H34, q41, H40, q42, d44, w45, nm, seval]
      refine cwp_scope mixed (by kernel_rfl) ?_
      cases g47 : (boundOk (IntKind.i64.wrap ((IntKind.i64.wrap (r29.SightStreet.Eye.High - r29.SightStreet.Eye.Low)) + 1)))
      ·simp only [g47, hs, reduceCtorEq] at h
       exact absurd h kN32
      simp only [g47, hs, reduceCtorEq] at h
      simp only [vz, tyf, d23, (ix24 o28), g33, n39, H34, q41, H40, q42, d44, w45, g47, nm, seval]
      obtain ⟨K46, h, kR46, kG46, kB46, kN46⟩ := lbind_intro h kN32
      obtain ⟨f46, hf46, h⟩ := call5 h
      obtain ⟨I46, hI46⟩ : ∃ I : Nat → St → Prop, I = (fun m st => ∃ (p46 : Nat) (c46_20 : Int) (c46_5 : Bool) (c46_6 : Bool) (c46_o0 : Int), p46 = m ∧ loOk c46_20 = true ∧ Int.toNat ((IntKind.i64.wrap ((IntKind.i64.wrap (r29.SightStreet.Eye.High - r29.SightStreet.Eye.Low)) + 1)) - c46_20) = p46 ∧ st.df = [] ∧ nx32 + 26 ≤ st.nx ∧ st.H 17 = some (.cells (some 97) (cGsightview r29)) ∧ st.H b32_0 = some (.cells (el32_0) (cellsL eI c32_9)) ∧ st.H (nx32 + 2) = some (.cells (some 3) ([.lit (.int .i64 c32_29)])) ∧ st.H (nx32 + 11) = some (.cells (some 97) ((cGSightStreet r29.SightStreet) ++ (cGSightPlace r29.SightPlace) ++ (cGSightBoard r29.board) ++ [.lit (.int .i64 c46_o0)])) ∧ st.tm 1 = .fn (.func 71) [] [.ptr (nx32 + 2) 0] ∧ st.tm 2 = .ptr (nx32 + 11) 0 ∧ st.tm 19 = .lit (.int .i64 (IntKind.i64.wrap ((IntKind.i64.wrap (r29.SightStreet.Eye.High - r29.SightStreet.Eye.Low)) + 1))) ∧ st.tm 5 = .lit (.bool c46_5) ∧ st.tm 6 = .lit (.bool c46_6) ∧ st.tm 20 = .lit (.int .i64 c46_20) ∧ K46 (f46 p46 c46_20 c46_5 c46_6 c46_o0)) := ⟨_, rfl⟩
      refine loopK mixed (by kernel_rfl) I46 (Int.toNat ((IntKind.i64.wrap ((IntKind.i64.wrap (r29.SightStreet.Eye.High - r29.SightStreet.Eye.Low)) + 1)) - 0)) (by rw [hI46]; refine ⟨Int.toNat ((IntKind.i64.wrap ((IntKind.i64.wrap (r29.SightStreet.Eye.High - r29.SightStreet.Eye.Low)) + 1)) - 0), 0, true, false, r29.power, rfl, (by rfl), rfl, rfl, (show nx32 + 26 ≤ nx32 + 26 by omega), ?_, ?_, ?_, ?_, ?_, ?_, ?_, ?_, ?_, ?_, h⟩ <;> first | (simp only [ua, d23, n39, H34, q41, H40, q42, d44, w45, nm, seval] <;> rfl) | rfl) ?_
      rintro m ⟨tm, H, nx46, df⟩ hinv
      rw [hI46] at hinv
      obtain ⟨p46, c46_20, c46_5, c46_6, c46_o0, rfl, hi46, hp46, hdf, hn46, H48, H49, H50, H51, e52, e53, e54, e55, e56, e57, h⟩ := hinv
      simp only at hdf hn46 H48 H49 H50 H51 e52 e53 e54 e55 e56 e57
      have n58 := base_ne0 (m := 26) (b := nx46) (by omega)
      have n59 := base_ne (a := nx32) (m := 26) (b := nx46) (by omega)
      have n60 := own_lt (β := b32_0) (nx := nx46) (by omega)
      subst hdf hf46
      cases p46 with
      | zero =>
       have d61 : (decide (c46_20 < (IntKind.i64.wrap ((IntKind.i64.wrap (r29.SightStreet.Eye.High - r29.SightStreet.Eye.Low)) + 1)))) = false := cnt_not_lt hp46
       simp only [g_sight_Melts_l1, hs, reduceCtorEq] at h
       replace h := kG46 _ h
       try dsimp only at h
       try simp only [hs] at h
       cases d62 : (c46_5)
       ·simp only [d62, hs, reduceCtorEq] at h
        cases d63 : (c46_6)
        ·simp only [d63, hs, reduceCtorEq] at h
         have b64 := And.intro d23 (And.intro g33 (And.intro d44 (And.intro g47 (And.intro d61 (And.intro d62 d63)))))
         simp only [vz, tyf, b64, (ix24 o28), n39, q41, q42, w45, n58, n59, n60, e52, e53, e54, e55, e56, e57, H48, H49, H50, H51, nm, seval]
         refine opd_ret (x := (.lit (.int .i64 1))) (by first | (simp only [Tryz.results68, resV, resL, resV1, tgt_ptr, tgt_tp, uw, cr, tyf, b64, (ix24 o28), n39, q41, q42, w45, n58, n59, n60, H48, H49, H50, H51, nm, seval] <;> rfl) | rfl) ?_
         cases g65 : (roomOk 8 (List.length (c32_9 ++ [1])))
         ·simp only [g65, hs, reduceCtorEq] at h
          exact absurd h kN32
         simp only [g65, hs, reduceCtorEq] at h
         simp only [vz, tyf, b64, (ix24 o28), n39, q41, q42, w45, n58, n59, n60, H48, H49, H50, H51, e35, e36, e37, e38, g65, nm, seval]
         refine k_app (w := 1) (enc := eI) (xs := c32_9) (ys := ([1])) (el := el32_0) (el2 := (some 34)) (fun _ => rfl) lf54 ao54 Tryz.underlying54 (by first | rfl | assumption | (simp only [updH_apply, without_apply, et54, n39, q41, q42, n58, n59, n60, H48, H49, H50, H51, nm, seval] <;> rfl) | (simp only [updH_apply, without_apply, cellsL_cons, cellsL_nil, mV_app, mV_app0, tyf, b64, (ix24 o28), n39, q41, q42, w45, n58, n59, n60, H48, H49, H50, H51, e35, e36, e37, e38, g65, nm, seval]; done)) (by first | rfl | assumption | (simp only [updH_apply, without_apply, et54, n39, q41, q42, n58, n59, n60, H48, H49, H50, H51, nm, seval] <;> rfl) | (simp only [updH_apply, without_apply, cellsL_cons, cellsL_nil, mV_app, mV_app0, tyf, b64, (ix24 o28), n39, q41, q42, w45, n58, n59, n60, H48, H49, H50, H51, e35, e36, e37, e38, g65, nm, seval]; done)) (Nat.zero_lt_succ _) g65 ?_
         simp only [vz, tyf, b64, (ix24 o28), n39, q41, q42, w45, n58, n59, n60, H48, H49, H50, H51, e35, e36, e37, e38, g65, nm, seval]
         exact ⟨p32, Nat.lt_succ_self _, by rw [hI32]; refine ⟨p32, c32_29 + 1, (c32_9 ++ [1]), .ref (nx32 + 9) 0 (List.length (c32_9 ++ [1])) 1 (List.length (c32_9 ++ [1])), rfl, cnt_lo hi32, cnt_next hp32, rfl, (show 26 ≤ nx46 + 8 by omega), ?_, e35, e36, ?_, ?_, Or.inl ⟨nx32 + 9, (sameEl el32_0 34), rfl, (by first | omega | (simp only [nm, seval]; omega)), (by first | omega | (intro hh; simp only [n39, q41, q42, n58, n59, n60, reduceCtorEq] at hh)), ?_⟩, h⟩ <;> first | (simp only [ua, b64, n39, q41, q42, w45, n58, n59, n60, H48, H49, H50, H51, e35, e36, e37, e38, nm, seval] <;> rfl) | rfl⟩
        simp only [d63, hs, reduceCtorEq] at h
        have b66 := And.intro d23 (And.intro g33 (And.intro d44 (And.intro g47 (And.intro d61 (And.intro d62 d63)))))
        simp only [vz, tyf, b66, (ix24 o28), n39, q41, q42, w45, n58, n59, n60, e52, e53, e54, e55, e56, e57, H48, H49, H50, H51, nm, seval]
        refine opd_ret (x := (.lit (.int .i64 2))) (by first | (simp only [Tryz.results68, resV, resL, resV1, tgt_ptr, tgt_tp, uw, cr, tyf, b66, (ix24 o28), n39, q41, q42, w45, n58, n59, n60, H48, H49, H50, H51, nm, seval] <;> rfl) | rfl) ?_
        cases g67 : (roomOk 8 (List.length (c32_9 ++ [2])))
        ·simp only [g67, hs, reduceCtorEq] at h
         exact absurd h kN32
        simp only [g67, hs, reduceCtorEq] at h
        simp only [vz, tyf, b66, (ix24 o28), n39, q41, q42, w45, n58, n59, n60, H48, H49, H50, H51, e35, e36, e37, e38, g67, nm, seval]
        refine k_app (w := 1) (enc := eI) (xs := c32_9) (ys := ([2])) (el := el32_0) (el2 := (some 34)) (fun _ => rfl) lf54 ao54 Tryz.underlying54 (by first | rfl | assumption | (simp only [updH_apply, without_apply, et54, n39, q41, q42, n58, n59, n60, H48, H49, H50, H51, nm, seval] <;> rfl) | (simp only [updH_apply, without_apply, cellsL_cons, cellsL_nil, mV_app, mV_app0, tyf, b66, (ix24 o28), n39, q41, q42, w45, n58, n59, n60, H48, H49, H50, H51, e35, e36, e37, e38, g67, nm, seval]; done)) (by first | rfl | assumption | (simp only [updH_apply, without_apply, et54, n39, q41, q42, n58, n59, n60, H48, H49, H50, H51, nm, seval] <;> rfl) | (simp only [updH_apply, without_apply, cellsL_cons, cellsL_nil, mV_app, mV_app0, tyf, b66, (ix24 o28), n39, q41, q42, w45, n58, n59, n60, H48, H49, H50, H51, e35, e36, e37, e38, g67, nm, seval]; done)) (Nat.zero_lt_succ _) g67 ?_
        simp only [vz, tyf, b66, (ix24 o28), n39, q41, q42, w45, n58, n59, n60, H48, H49, H50, H51, e35, e36, e37, e38, g67, nm, seval]
        exact ⟨p32, Nat.lt_succ_self _, by rw [hI32]; refine ⟨p32, c32_29 + 1, (c32_9 ++ [2]), .ref (nx32 + 9) 0 (List.length (c32_9 ++ [2])) 1 (List.length (c32_9 ++ [2])), rfl, cnt_lo hi32, cnt_next hp32, rfl, (show 26 ≤ nx46 + 8 by omega), ?_, e35, e36, ?_, ?_, Or.inl ⟨nx32 + 9, (sameEl el32_0 34), rfl, (by first | omega | (simp only [nm, seval]; omega)), (by first | omega | (intro hh; simp only [n39, q41, q42, n58, n59, n60, reduceCtorEq] at hh)), ?_⟩, h⟩ <;> first | (simp only [ua, b66, n39, q41, q42, w45, n58, n59, n60, H48, H49, H50, H51, e35, e36, e37, e38, nm, seval] <;> rfl) | rfl⟩
       simp only [d62, hs, reduceCtorEq] at h
       simp only [vz, tyf, d23, (ix24 o28), g33, n39, q41, q42, d44, w45, g47, n58, n59, n60, e52, e53, e54, e55, e56, e57, H48, H49, H50, H51, d61, d62, nm, seval]
       refine opd_ret (x := (.lit (.int .i64 3))) (by first | (simp only [Tryz.results68, resV, resL, resV1, tgt_ptr, tgt_tp, uw, cr, tyf, d23, (ix24 o28), g33, n39, q41, q42, d44, w45, g47, n58, n59, n60, H48, H49, H50, H51, d61, d62, nm, seval] <;> rfl) | rfl) ?_
       cases g68 : (roomOk 8 (List.length (c32_9 ++ [3])))
       ·simp only [g68, hs, reduceCtorEq] at h
        exact absurd h kN32
       simp only [g68, hs, reduceCtorEq] at h
       simp only [vz, tyf, d23, (ix24 o28), g33, n39, q41, q42, d44, w45, g47, n58, n59, n60, H48, H49, H50, H51, d61, d62, e35, e36, e37, e38, g68, nm, seval]
       refine k_app (w := 1) (enc := eI) (xs := c32_9) (ys := ([3])) (el := el32_0) (el2 := (some 34)) (fun _ => rfl) lf54 ao54 Tryz.underlying54 (by first | rfl | assumption | (simp only [updH_apply, without_apply, et54, n39, q41, q42, n58, n59, n60, H48, H49, H50, H51, nm, seval] <;> rfl) | (simp only [updH_apply, without_apply, cellsL_cons, cellsL_nil, mV_app, mV_app0, tyf, d23, (ix24 o28), g33, n39, q41, q42, d44, w45, g47, n58, n59, n60, H48, H49, H50, H51, d61, d62, e35, e36, e37, e38, g68, nm, seval]; done)) (by first | rfl | assumption | (simp only [updH_apply, without_apply, et54, n39, q41, q42, n58, n59, n60, H48, H49, H50, H51, nm, seval] <;> rfl) | (simp only [updH_apply, without_apply, cellsL_cons, cellsL_nil, mV_app, mV_app0, tyf, d23, (ix24 o28), g33, n39, q41, q42, d44, w45, g47, n58, n59, n60, H48, H49, H50, H51, d61, d62, e35, e36, e37, e38, g68, nm, seval]; done)) (Nat.zero_lt_succ _) g68 ?_
       simp only [vz, tyf, d23, (ix24 o28), g33, n39, q41, q42, d44, w45, g47, n58, n59, n60, H48, H49, H50, H51, d61, d62, e35, e36, e37, e38, g68, nm, seval]
       exact ⟨p32, Nat.lt_succ_self _, by rw [hI32]; refine ⟨p32, c32_29 + 1, (c32_9 ++ [3]), .ref (nx32 + 9) 0 (List.length (c32_9 ++ [3])) 1 (List.length (c32_9 ++ [3])), rfl, cnt_lo hi32, cnt_next hp32, rfl, (show 26 ≤ nx46 + 6 by omega), ?_, e35, e36, ?_, ?_, Or.inl ⟨nx32 + 9, (sameEl el32_0 34), rfl, (by first | omega | (simp only [nm, seval]; omega)), (by first | omega | (intro hh; simp only [n39, q41, q42, n58, n59, n60, reduceCtorEq] at hh)), ?_⟩, h⟩ <;> first | (simp only [ua, d23, n39, q41, q42, d44, w45, n58, n59, n60, H48, H49, H50, H51, d61, d62, e35, e36, e37, e38, nm, seval] <;> rfl) | rfl⟩
      | succ p46 =>
       have d69 : (decide (c46_20 < (IntKind.i64.wrap ((IntKind.i64.wrap (r29.SightStreet.Eye.High - r29.SightStreet.Eye.Low)) + 1)))) = true := cnt_lt hp46
       have w70 := cnt_wrap hi46 hp46 g47
       simp only [g_sight_Melts_l1, hs, reduceCtorEq] at h
       cases g72 : (boundOk (IntKind.i64.wrap ((IntKind.i64.wrap (r29.SightStreet.Light.High - r29.SightStreet.Light.Low)) + 1)))
       ·simp only [g72, hs, reduceCtorEq] at h
        exact absurd h kN46
       simp only [g72, hs, reduceCtorEq] at h
       simp only [vz, tyf, d23, (ix24 o28), g33, n39, q41, q42, d44, w45, g47, n58, n59, n60, e52, e53, e54, e55, e56, e57, H48, H49, H50, H51, d69, w70, g72, nm, seval]
       obtain ⟨K71, h, kR71, kG71, kB71, kN71⟩ := lbind_intro h kN46
       obtain ⟨f71, hf71, h⟩ := call5 h
       obtain ⟨I71, hI71⟩ : ∃ I : Nat → St → Prop, I = (fun m st => ∃ (p71 : Nat) (c71_33 : Int) (c71_5 : Bool) (c71_6 : Bool) (c71_o0 : Int), p71 = m ∧ loOk c71_33 = true ∧ Int.toNat ((IntKind.i64.wrap ((IntKind.i64.wrap (r29.SightStreet.Light.High - r29.SightStreet.Light.Low)) + 1)) - c71_33) = p71 ∧ st.df = [] ∧ nx46 + 14 ≤ st.nx ∧ st.H 17 = some (.cells (some 97) (cGsightview r29)) ∧ st.H b32_0 = some (.cells (el32_0) (cellsL eI c32_9)) ∧ st.H (nx32 + 2) = some (.cells (some 3) ([.lit (.int .i64 c32_29)])) ∧ st.H (nx32 + 11) = some (.cells (some 97) ((cGSightStreet r29.SightStreet) ++ (cGSightPlace r29.SightPlace) ++ (cGSightBoard r29.board) ++ [.lit (.int .i64 c71_o0)])) ∧ st.tm 1 = .fn (.func 71) [] [.ptr (nx32 + 2) 0] ∧ st.tm 2 = .ptr (nx32 + 11) 0 ∧ st.tm 7 = .lit (.int .i64 c46_20) ∧ st.tm 19 = .lit (.int .i64 (IntKind.i64.wrap ((IntKind.i64.wrap (r29.SightStreet.Eye.High - r29.SightStreet.Eye.Low)) + 1))) ∧ st.tm 20 = .lit (.int .i64 c46_20) ∧ st.tm 32 = .lit (.int .i64 (IntKind.i64.wrap ((IntKind.i64.wrap (r29.SightStreet.Light.High - r29.SightStreet.Light.Low)) + 1))) ∧ st.tm 5 = .lit (.bool c71_5) ∧ st.tm 6 = .lit (.bool c71_6) ∧ st.tm 33 = .lit (.int .i64 c71_33) ∧ K71 (f71 p71 c71_33 c71_5 c71_6 c71_o0)) := ⟨_, rfl⟩
       refine loopK mixed (by kernel_rfl) I71 (Int.toNat ((IntKind.i64.wrap ((IntKind.i64.wrap (r29.SightStreet.Light.High - r29.SightStreet.Light.Low)) + 1)) - 0)) (by rw [hI71]; refine ⟨Int.toNat ((IntKind.i64.wrap ((IntKind.i64.wrap (r29.SightStreet.Light.High - r29.SightStreet.Light.Low)) + 1)) - 0), 0, c46_5, c46_6, c46_o0, rfl, (by rfl), rfl, rfl, (show nx46 + 14 ≤ nx46 + 14 by omega), ?_, ?_, ?_, ?_, e52, e53, ?_, e54, e57, ?_, e55, e56, ?_, h⟩ <;> first | (simp only [ua, d23, n39, q41, q42, d44, w45, n58, n59, n60, e52, e53, e54, e55, e56, e57, H48, H49, H50, H51, d69, w70, nm, seval] <;> rfl) | rfl) ?_
       rintro m ⟨tm, H, nx71, df⟩ hinv
       rw [hI71] at hinv
       obtain ⟨p71, c71_33, c71_5, c71_6, c71_o0, rfl, hi71, hp71, hdf, hn71, H73, H74, H75, H76, e77, e78, e79, e80, e81, e82, e83, e84, e85, h⟩ := hinv
       simp only at hdf hn71 H73 H74 H75 H76 e77 e78 e79 e80 e81 e82 e83 e84 e85
       have n86 := base_ne0 (m := 26) (b := nx71) (by omega)
       have n87 := base_ne (a := nx32) (m := 26) (b := nx71) (by omega)
       have n88 := base_ne (a := nx46) (m := 14) (b := nx71) (by omega)
       have n89 := own_lt (β := b32_0) (nx := nx71) (by omega)
       subst hdf hf71
       cases p71 with
       | zero =>
        have d90 : (decide (c71_33 < (IntKind.i64.wrap ((IntKind.i64.wrap (r29.SightStreet.Light.High - r29.SightStreet.Light.Low)) + 1)))) = false := cnt_not_lt hp71
        simp only [g_sight_Melts_l2, hs, reduceCtorEq] at h
        replace h := kG71 _ h
        try dsimp only at h
        try simp only [hs] at h
        simp only [vz, tyf, d23, (ix24 o28), g33, n39, q41, q42, d44, w45, g47, n58, n59, n60, d69, w70, g72, n86, n87, n88, n89, e77, e78, e79, e80, e81, e82, e83, e84, e85, H73, H74, H75, H76, d90, nm, seval]
        exact ⟨p46, Nat.lt_succ_self _, by rw [hI46]; refine ⟨p46, c46_20 + 1, c71_5, c71_6, c71_o0, rfl, cnt_lo hi46, cnt_next hp46, rfl, (show nx32 + 26 ≤ nx71 + 3 by omega), ?_, ?_, ?_, ?_, e77, e78, e80, e83, e84, ?_, h⟩ <;> first | (simp only [ua, d23, n39, q41, q42, d44, w45, n58, n59, n60, d69, w70, n86, n87, n88, n89, e77, e78, e79, e80, e81, e82, e83, e84, e85, H73, H74, H75, H76, d90, nm, seval] <;> rfl) | rfl⟩
       | succ p71 =>
        have d91 : (decide (c71_33 < (IntKind.i64.wrap ((IntKind.i64.wrap (r29.SightStreet.Light.High - r29.SightStreet.Light.Low)) + 1)))) = true := cnt_lt hp71
        have w92 := cnt_wrap hi71 hp71 g72
        simp only [g_sight_Melts_l2, hs, reduceCtorEq] at h
        simp only [vz, tyf, d23, (ix24 o28), g33, n39, q41, q42, d44, w45, g47, n58, n59, n60, d69, w70, g72, n86, n87, n88, n89, e77, e78, e79, e80, e81, e82, e83, e84, e85, H73, H74, H75, H76, d91, w92, nm, seval]
        refine kopen ?_
        rw [openK_eq]
        refine VOpen.run mixed Tryz.call71 Tryz.func71 rfl (by simp [Tryz.ntmps71]; kernel_rfl) ?_
        cases o94 : (g_sight_view_isApart (Gsightview.mk r29.SightStreet r29.SightPlace r29.board (IntKind.i64.wrap ((IntKind.i64.wrap (r29.SightStreet.Eye.Low + c46_20)) * (IntKind.i64.wrap (r29.SightStreet.Light.Low + c71_33))))) c32_29) with
        | none =>
         simp only [o94, hs, reduceCtorEq] at h
         exact absurd h kN71
        | some r93 =>
         simp only [o94, hs, reduceCtorEq] at h
         simp only [vz, tyf, d23, (ix24 o28), g33, n39, q41, q42, d44, w45, g47, n58, n59, n60, d69, w70, g72, n86, n87, n88, n89, H73, H74, H75, H76, d91, w92, nm, seval]
         refine ktree (args0 := [.agg (cGsightview (Gsightview.mk r29.SightStreet r29.SightPlace r29.board (IntKind.i64.wrap ((IntKind.i64.wrap (r29.SightStreet.Eye.Low + c46_20)) * (IntKind.i64.wrap (r29.SightStreet.Light.Low + c71_33)))))), .lit (.int .i64 c32_29)]) (by first | (simp only [nrm, tynrm] <;> rfl) | rfl) (by simp only [tre, tytre, Bool.and_self]) (g_sight_view_isApart_ok _ _ _ o94) ?_
         refine fin_cut (fun tm => tm 6 = .lit (.bool r93) ∧ True) (by refine ⟨?_, trivial⟩ <;> first | (simp only [ua, d23, n39, q41, q42, d44, w45, n58, n59, n60, d69, w70, n86, n87, n88, n89, H73, H74, H75, H76, d91, w92, nm, seval] <;> rfl) | rfl) ?_
         rintro tm ⟨e95, _⟩
         have b96 := And.intro d23 (And.intro g33 (And.intro d44 (And.intro g47 (And.intro d69 (And.intro g72 d91)))))
         simp only [vz, tyf, b96, (ix24 o28), n39, q41, q42, w45, n58, n59, n60, w70, n86, n87, n88, n89, H73, H74, H75, H76, w92, e95, nm, seval]
         refine opd_ret (x := (.lit (.bool (!r93)))) (by first | (simp only [Tryz.results71, resV, resL, resV1, tgt_ptr, tgt_tp, uw, cr, tyf, b96, (ix24 o28), n39, q41, q42, w45, n58, n59, n60, w70, n86, n87, n88, n89, H73, H74, H75, H76, w92, nm, seval] <;> rfl) | rfl) ?_
         cases d97 : (c71_5)
         ·simp only [d97, hs, reduceCtorEq] at h
          cases d98 : (c71_6)
          ·simp only [d98, hs, reduceCtorEq] at h
           cases d99 : (r93)
           ·simp only [d99, hs, reduceCtorEq] at h
            replace h := kB71 _ _ h
            try dsimp only at h
            try simp only [hs] at h
            replace h := kG46 _ h
            try dsimp only at h
            try simp only [hs] at h
            simp only [vz, tyf, b96, (ix24 o28), n39, q41, q42, w45, n58, n59, n60, w70, n86, n87, n88, n89, H73, H74, H75, H76, w92, e77, e78, e79, e80, e81, e82, e83, e84, e85, d97, d98, d99, nm, seval]
            refine opd_ret (x := (.lit (.int .i64 2))) (by first | (simp only [Tryz.results68, resV, resL, resV1, tgt_ptr, tgt_tp, uw, cr, tyf, b96, (ix24 o28), n39, q41, q42, w45, n58, n59, n60, w70, n86, n87, n88, n89, H73, H74, H75, H76, w92, d97, d98, d99, nm, seval] <;> rfl) | rfl) ?_
            cases g100 : (roomOk 8 (List.length (c32_9 ++ [2])))
            ·simp only [g100, hs, reduceCtorEq] at h
             exact absurd h kN32
            simp only [g100, hs, reduceCtorEq] at h
            simp only [vz, tyf, b96, (ix24 o28), n39, q41, q42, w45, n58, n59, n60, w70, n86, n87, n88, n89, H73, H74, H75, H76, w92, d97, d98, d99, e35, e36, e37, e38, g100, nm, seval]
            refine k_app (w := 1) (enc := eI) (xs := c32_9) (ys := ([2])) (el := el32_0) (el2 := (some 34)) (fun _ => rfl) lf54 ao54 Tryz.underlying54 (by first | rfl | assumption | (simp only [updH_apply, without_apply, et54, n39, q41, q42, n58, n59, n60, n86, n87, n88, n89, H73, H74, H75, H76, nm, seval] <;> rfl) | (simp only [updH_apply, without_apply, cellsL_cons, cellsL_nil, mV_app, mV_app0, tyf, b96, (ix24 o28), n39, q41, q42, w45, n58, n59, n60, w70, n86, n87, n88, n89, H73, H74, H75, H76, w92, d97, d98, d99, e35, e36, e37, e38, g100, nm, seval]; done)) (by first | rfl | assumption | (simp only [updH_apply, without_apply, et54, n39, q41, q42, n58, n59, n60, n86, n87, n88, n89, H73, H74, H75, H76, nm, seval] <;> rfl) | (simp only [updH_apply, without_apply, cellsL_cons, cellsL_nil, mV_app, mV_app0, tyf, b96, (ix24 o28), n39, q41, q42, w45, n58, n59, n60, w70, n86, n87, n88, n89, H73, H74, H75, H76, w92, d97, d98, d99, e35, e36, e37, e38, g100, nm, seval]; done)) (Nat.zero_lt_succ _) g100 ?_
            simp only [vz, tyf, b96, (ix24 o28), n39, q41, q42, w45, n58, n59, n60, w70, n86, n87, n88, n89, H73, H74, H75, H76, w92, d97, d98, d99, e35, e36, e37, e38, g100, nm, seval]
            exact ⟨p32, Nat.lt_succ_self _, by rw [hI32]; refine ⟨p32, c32_29 + 1, (c32_9 ++ [2]), .ref (nx32 + 9) 0 (List.length (c32_9 ++ [2])) 1 (List.length (c32_9 ++ [2])), rfl, cnt_lo hi32, cnt_next hp32, rfl, (show 26 ≤ nx71 + 51 by omega), ?_, e35, e36, ?_, ?_, Or.inl ⟨nx32 + 9, (sameEl el32_0 34), rfl, (by first | omega | (simp only [nm, seval]; omega)), (by first | omega | (intro hh; simp only [n39, q41, q42, n58, n59, n60, n86, n87, n88, n89, reduceCtorEq] at hh)), ?_⟩, h⟩ <;> first | (simp only [ua, b96, n39, q41, q42, w45, n58, n59, n60, w70, n86, n87, n88, n89, H73, H74, H75, H76, w92, d97, d98, d99, e35, e36, e37, e38, nm, seval] <;> rfl) | rfl⟩
           simp only [d99, hs, reduceCtorEq] at h
           simp only [vz, tyf, b96, (ix24 o28), n39, q41, q42, w45, n58, n59, n60, w70, n86, n87, n88, n89, H73, H74, H75, H76, w92, e77, e78, e79, e80, e81, e82, e83, e84, e85, d97, d98, d99, nm, seval]
           exact ⟨p71, Nat.lt_succ_self _, by rw [hI71]; refine ⟨p71, c71_33 + 1, false, false, IntKind.i64.wrap ((IntKind.i64.wrap (r29.SightStreet.Eye.Low + c46_20)) * (IntKind.i64.wrap (r29.SightStreet.Light.Low + c71_33))), rfl, cnt_lo hi71, cnt_next hp71, rfl, (show nx46 + 14 ≤ nx71 + 46 by omega), ?_, ?_, ?_, ?_, e77, e78, e79, e80, e81, e82, ?_, ?_, ?_, h⟩ <;> first | (simp only [ua, b96, n39, q41, q42, w45, n58, n59, n60, w70, n86, n87, n88, n89, H73, H74, H75, H76, w92, e77, e78, e79, e80, e81, e82, e83, e84, e85, d97, d98, d99, nm, seval] <;> rfl) | rfl⟩
          simp only [d98, hs, reduceCtorEq] at h
          replace h := kB71 _ _ h
          try dsimp only at h
          try simp only [hs] at h
          replace h := kG46 _ h
          try dsimp only at h
          try simp only [hs] at h
          simp only [vz, tyf, b96, (ix24 o28), n39, q41, q42, w45, n58, n59, n60, w70, n86, n87, n88, n89, H73, H74, H75, H76, w92, e77, e78, e79, e80, e81, e82, e83, e84, e85, d97, d98, nm, seval]
          refine opd_ret (x := (.lit (.int .i64 2))) (by first | (simp only [Tryz.results68, resV, resL, resV1, tgt_ptr, tgt_tp, uw, cr, tyf, b96, (ix24 o28), n39, q41, q42, w45, n58, n59, n60, w70, n86, n87, n88, n89, H73, H74, H75, H76, w92, d97, d98, nm, seval] <;> rfl) | rfl) ?_
          cases g101 : (roomOk 8 (List.length (c32_9 ++ [2])))
          ·simp only [g101, hs, reduceCtorEq] at h
           exact absurd h kN32
          simp only [g101, hs, reduceCtorEq] at h
          simp only [vz, tyf, b96, (ix24 o28), n39, q41, q42, w45, n58, n59, n60, w70, n86, n87, n88, n89, H73, H74, H75, H76, w92, d97, d98, e35, e36, e37, e38, g101, nm, seval]
          refine k_app (w := 1) (enc := eI) (xs := c32_9) (ys := ([2])) (el := el32_0) (el2 := (some 34)) (fun _ => rfl) lf54 ao54 Tryz.underlying54 (by first | rfl | assumption | (simp only [updH_apply, without_apply, et54, n39, q41, q42, n58, n59, n60, n86, n87, n88, n89, H73, H74, H75, H76, nm, seval] <;> rfl) | (simp only [updH_apply, without_apply, cellsL_cons, cellsL_nil, mV_app, mV_app0, tyf, b96, (ix24 o28), n39, q41, q42, w45, n58, n59, n60, w70, n86, n87, n88, n89, H73, H74, H75, H76, w92, d97, d98, e35, e36, e37, e38, g101, nm, seval]; done)) (by first | rfl | assumption | (simp only [updH_apply, without_apply, et54, n39, q41, q42, n58, n59, n60, n86, n87, n88, n89, H73, H74, H75, H76, nm, seval] <;> rfl) | (simp only [updH_apply, without_apply, cellsL_cons, cellsL_nil, mV_app, mV_app0, tyf, b96, (ix24 o28), n39, q41, q42, w45, n58, n59, n60, w70, n86, n87, n88, n89, H73, H74, H75, H76, w92, d97, d98, e35, e36, e37, e38, g101, nm, seval]; done)) (Nat.zero_lt_succ _) g101 ?_
          simp only [vz, tyf, b96, (ix24 o28), n39, q41, q42, w45, n58, n59, n60, w70, n86, n87, n88, n89, H73, H74, H75, H76, w92, d97, d98, e35, e36, e37, e38, g101, nm, seval]
          exact ⟨p32, Nat.lt_succ_self _, by rw [hI32]; refine ⟨p32, c32_29 + 1, (c32_9 ++ [2]), .ref (nx32 + 9) 0 (List.length (c32_9 ++ [2])) 1 (List.length (c32_9 ++ [2])), rfl, cnt_lo hi32, cnt_next hp32, rfl, (show 26 ≤ nx71 + 51 by omega), ?_, e35, e36, ?_, ?_, Or.inl ⟨nx32 + 9, (sameEl el32_0 34), rfl, (by first | omega | (simp only [nm, seval]; omega)), (by first | omega | (intro hh; simp only [n39, q41, q42, n58, n59, n60, n86, n87, n88, n89, reduceCtorEq] at hh)), ?_⟩, h⟩ <;> first | (simp only [ua, b96, n39, q41, q42, w45, n58, n59, n60, w70, n86, n87, n88, n89, H73, H74, H75, H76, w92, d97, d98, e35, e36, e37, e38, nm, seval] <;> rfl) | rfl⟩
         simp only [d97, hs, reduceCtorEq] at h
         cases d102 : (c71_6)
         ·simp only [d102, hs, reduceCtorEq] at h
          cases d103 : (r93)
          ·simp only [d103, hs, reduceCtorEq] at h
           simp only [vz, tyf, b96, (ix24 o28), n39, q41, q42, w45, n58, n59, n60, w70, n86, n87, n88, n89, H73, H74, H75, H76, w92, e77, e78, e79, e80, e81, e82, e83, e84, e85, d97, d102, d103, nm, seval]
           exact ⟨p71, Nat.lt_succ_self _, by rw [hI71]; refine ⟨p71, c71_33 + 1, true, true, IntKind.i64.wrap ((IntKind.i64.wrap (r29.SightStreet.Eye.Low + c46_20)) * (IntKind.i64.wrap (r29.SightStreet.Light.Low + c71_33))), rfl, cnt_lo hi71, cnt_next hp71, rfl, (show nx46 + 14 ≤ nx71 + 46 by omega), ?_, ?_, ?_, ?_, e77, e78, e79, e80, e81, e82, ?_, ?_, ?_, h⟩ <;> first | (simp only [ua, b96, n39, q41, q42, w45, n58, n59, n60, w70, n86, n87, n88, n89, H73, H74, H75, H76, w92, e77, e78, e79, e80, e81, e82, e83, e84, e85, d97, d102, d103, nm, seval] <;> rfl) | rfl⟩
          simp only [d103, hs, reduceCtorEq] at h
          simp only [vz, tyf, b96, (ix24 o28), n39, q41, q42, w45, n58, n59, n60, w70, n86, n87, n88, n89, H73, H74, H75, H76, w92, e77, e78, e79, e80, e81, e82, e83, e84, e85, d97, d102, d103, nm, seval]
          exact ⟨p71, Nat.lt_succ_self _, by rw [hI71]; refine ⟨p71, c71_33 + 1, false, false, IntKind.i64.wrap ((IntKind.i64.wrap (r29.SightStreet.Eye.Low + c46_20)) * (IntKind.i64.wrap (r29.SightStreet.Light.Low + c71_33))), rfl, cnt_lo hi71, cnt_next hp71, rfl, (show nx46 + 14 ≤ nx71 + 46 by omega), ?_, ?_, ?_, ?_, e77, e78, e79, e80, e81, e82, ?_, ?_, ?_, h⟩ <;> first | (simp only [ua, b96, n39, q41, q42, w45, n58, n59, n60, w70, n86, n87, n88, n89, H73, H74, H75, H76, w92, e77, e78, e79, e80, e81, e82, e83, e84, e85, d97, d102, d103, nm, seval] <;> rfl) | rfl⟩
         simp only [d102, hs, reduceCtorEq] at h
         cases d104 : (r93)
         ·simp only [d104, hs, reduceCtorEq] at h
          simp only [vz, tyf, b96, (ix24 o28), n39, q41, q42, w45, n58, n59, n60, w70, n86, n87, n88, n89, H73, H74, H75, H76, w92, e77, e78, e79, e80, e81, e82, e83, e84, e85, d97, d102, d104, nm, seval]
          exact ⟨p71, Nat.lt_succ_self _, by rw [hI71]; refine ⟨p71, c71_33 + 1, true, true, IntKind.i64.wrap ((IntKind.i64.wrap (r29.SightStreet.Eye.Low + c46_20)) * (IntKind.i64.wrap (r29.SightStreet.Light.Low + c71_33))), rfl, cnt_lo hi71, cnt_next hp71, rfl, (show nx46 + 14 ≤ nx71 + 46 by omega), ?_, ?_, ?_, ?_, e77, e78, e79, e80, e81, e82, ?_, ?_, ?_, h⟩ <;> first | (simp only [ua, b96, n39, q41, q42, w45, n58, n59, n60, w70, n86, n87, n88, n89, H73, H74, H75, H76, w92, e77, e78, e79, e80, e81, e82, e83, e84, e85, d97, d102, d104, nm, seval] <;> rfl) | rfl⟩
         simp only [d104, hs, reduceCtorEq] at h
         replace h := kB71 _ _ h
         try dsimp only at h
         try simp only [hs] at h
         replace h := kG46 _ h
         try dsimp only at h
         try simp only [hs] at h
         simp only [vz, tyf, b96, (ix24 o28), n39, q41, q42, w45, n58, n59, n60, w70, n86, n87, n88, n89, H73, H74, H75, H76, w92, e77, e78, e79, e80, e81, e82, e83, e84, e85, d97, d102, d104, nm, seval]
         refine opd_ret (x := (.lit (.int .i64 2))) (by first | (simp only [Tryz.results68, resV, resL, resV1, tgt_ptr, tgt_tp, uw, cr, tyf, b96, (ix24 o28), n39, q41, q42, w45, n58, n59, n60, w70, n86, n87, n88, n89, H73, H74, H75, H76, w92, d97, d102, d104, nm, seval] <;> rfl) | rfl) ?_
         cases g105 : (roomOk 8 (List.length (c32_9 ++ [2])))
         ·simp only [g105, hs, reduceCtorEq] at h
          exact absurd h kN32
         simp only [g105, hs, reduceCtorEq] at h
         simp only [vz, tyf, b96, (ix24 o28), n39, q41, q42, w45, n58, n59, n60, w70, n86, n87, n88, n89, H73, H74, H75, H76, w92, d97, d102, d104, e35, e36, e37, e38, g105, nm, seval]
         refine k_app (w := 1) (enc := eI) (xs := c32_9) (ys := ([2])) (el := el32_0) (el2 := (some 34)) (fun _ => rfl) lf54 ao54 Tryz.underlying54 (by first | rfl | assumption | (simp only [updH_apply, without_apply, et54, n39, q41, q42, n58, n59, n60, n86, n87, n88, n89, H73, H74, H75, H76, nm, seval] <;> rfl) | (simp only [updH_apply, without_apply, cellsL_cons, cellsL_nil, mV_app, mV_app0, tyf, b96, (ix24 o28), n39, q41, q42, w45, n58, n59, n60, w70, n86, n87, n88, n89, H73, H74, H75, H76, w92, d97, d102, d104, e35, e36, e37, e38, g105, nm, seval]; done)) (by first | rfl | assumption | (simp only [updH_apply, without_apply, et54, n39, q41, q42, n58, n59, n60, n86, n87, n88, n89, H73, H74, H75, H76, nm, seval] <;> rfl) | (simp only [updH_apply, without_apply, cellsL_cons, cellsL_nil, mV_app, mV_app0, tyf, b96, (ix24 o28), n39, q41, q42, w45, n58, n59, n60, w70, n86, n87, n88, n89, H73, H74, H75, H76, w92, d97, d102, d104, e35, e36, e37, e38, g105, nm, seval]; done)) (Nat.zero_lt_succ _) g105 ?_
         simp only [vz, tyf, b96, (ix24 o28), n39, q41, q42, w45, n58, n59, n60, w70, n86, n87, n88, n89, H73, H74, H75, H76, w92, d97, d102, d104, e35, e36, e37, e38, g105, nm, seval]
         exact ⟨p32, Nat.lt_succ_self _, by rw [hI32]; refine ⟨p32, c32_29 + 1, (c32_9 ++ [2]), .ref (nx32 + 9) 0 (List.length (c32_9 ++ [2])) 1 (List.length (c32_9 ++ [2])), rfl, cnt_lo hi32, cnt_next hp32, rfl, (show 26 ≤ nx71 + 51 by omega), ?_, e35, e36, ?_, ?_, Or.inl ⟨nx32 + 9, (sameEl el32_0 34), rfl, (by first | omega | (simp only [nm, seval]; omega)), (by first | omega | (intro hh; simp only [n39, q41, q42, n58, n59, n60, n86, n87, n88, n89, reduceCtorEq] at hh)), ?_⟩, h⟩ <;> first | (simp only [ua, b96, n39, q41, q42, w45, n58, n59, n60, w70, n86, n87, n88, n89, H73, H74, H75, H76, w92, d97, d102, d104, e35, e36, e37, e38, nm, seval] <;> rfl) | rfl⟩
    ·cases p32 with
     | zero =>
      have d106 : (decide (c32_29 < (IntKind.i64.wrap ((List.length r29.board.Letters : Int) - 1)))) = false := cnt_not_lt hp32
      simp only [g_sight_Melts_l0, hs, reduceCtorEq] at h
      replace h := kG32 _ h
      try dsimp only at h
      try simp only [hs] at h
      simp only [vz, tyf, d23, (ix24 o28), g33, n39, e35, e36, e37, e38, H34, d106, nm, seval]
      refine opd_ret (x := (.tup [.lit (.slice none 0 0), .lit (.int .i64 0)])) (by first | (simp only [Tryz.results29, resV, resL, resV1, tgt_ptr, tgt_tp, uw, cr, tyf, d23, (ix24 o28), g33, n39, H34, d106, nm, seval] <;> rfl) | rfl) ?_
      obtain rfl := kF _ h
      refine rr_tree ?_ ?_
      ·simp only [tre, tytre, Bool.and_self]
      ·first | (simp only [outV, uw, showV_ref, cr, tyf, nrm, tynrm, d23, (ix24 o28), g33, n39, e35, e36, e37, e38, H34, d106, nm, seval] <;> rfl) | rfl
     | succ p32 =>
      have d107 : (decide (c32_29 < (IntKind.i64.wrap ((List.length r29.board.Letters : Int) - 1)))) = true := cnt_lt hp32
      have w108 := cnt_wrap hi32 hp32 g33
      simp only [g_sight_Melts_l0, hs, reduceCtorEq] at h
      simp only [vz, tyf, d23, (ix24 o28), g33, n39, e35, e36, e37, e38, H34, d107, w108, nm, seval]
      refine kopen ?_
      rw [openK_eq]
      refine VOpen.run mixed Tryz.call68 Tryz.func68 rfl (by simp [Tryz.ntmps68]; kernel_rfl) ?_
      simp only [vz, tyf, d23, (ix24 o28), g33, n39, H34, d107, w108, nm, seval]
      refine cwp_scope mixed (by kernel_rfl) ?_
      cases g110 : (boundOk (IntKind.i64.wrap ((IntKind.i64.wrap (r29.SightStreet.Eye.High - r29.SightStreet.Eye.Low)) + 1)))
      ·simp only [g110, hs, reduceCtorEq] at h
       exact absurd h kN32
      simp only [g110, hs, reduceCtorEq] at h
      simp only [vz, tyf, d23, (ix24 o28), g33, n39, H34, d107, w108, g110, nm, seval]
      obtain ⟨K109, h, kR109, kG109, kB109, kN109⟩ := lbind_intro h kN32
      obtain ⟨f109, hf109, h⟩ := call5 h
      obtain ⟨I109, hI109⟩ : ∃ I : Nat → St → Prop, I = (fun m st => ∃ (p109 : Nat) (c109_20 : Int) (c109_5 : Bool) (c109_6 : Bool) (c109_o0 : Int), p109 = m ∧ loOk c109_20 = true ∧ Int.toNat ((IntKind.i64.wrap ((IntKind.i64.wrap (r29.SightStreet.Eye.High - r29.SightStreet.Eye.Low)) + 1)) - c109_20) = p109 ∧ st.df = [] ∧ nx32 + 26 ≤ st.nx ∧ st.H 17 = some (.cells (some 97) (cGsightview r29)) ∧ st.H (nx32 + 2) = some (.cells (some 3) ([.lit (.int .i64 c32_29)])) ∧ st.H (nx32 + 11) = some (.cells (some 97) ((cGSightStreet r29.SightStreet) ++ (cGSightPlace r29.SightPlace) ++ (cGSightBoard r29.board) ++ [.lit (.int .i64 c109_o0)])) ∧ st.tm 1 = .fn (.func 71) [] [.ptr (nx32 + 2) 0] ∧ st.tm 2 = .ptr (nx32 + 11) 0 ∧ st.tm 19 = .lit (.int .i64 (IntKind.i64.wrap ((IntKind.i64.wrap (r29.SightStreet.Eye.High - r29.SightStreet.Eye.Low)) + 1))) ∧ st.tm 5 = .lit (.bool c109_5) ∧ st.tm 6 = .lit (.bool c109_6) ∧ st.tm 20 = .lit (.int .i64 c109_20) ∧ K109 (f109 p109 c109_20 c109_5 c109_6 c109_o0)) := ⟨_, rfl⟩
      refine loopK mixed (by kernel_rfl) I109 (Int.toNat ((IntKind.i64.wrap ((IntKind.i64.wrap (r29.SightStreet.Eye.High - r29.SightStreet.Eye.Low)) + 1)) - 0)) (by rw [hI109]; refine ⟨Int.toNat ((IntKind.i64.wrap ((IntKind.i64.wrap (r29.SightStreet.Eye.High - r29.SightStreet.Eye.Low)) + 1)) - 0), 0, true, false, r29.power, rfl, (by rfl), rfl, rfl, (show nx32 + 26 ≤ nx32 + 26 by omega), ?_, ?_, ?_, ?_, ?_, ?_, ?_, ?_, ?_, h⟩ <;> first | (simp only [ua, d23, n39, H34, d107, w108, nm, seval] <;> rfl) | rfl) ?_
      rintro m ⟨tm, H, nx109, df⟩ hinv
      rw [hI109] at hinv
      obtain ⟨p109, c109_20, c109_5, c109_6, c109_o0, rfl, hi109, hp109, hdf, hn109, H111, H112, H113, e114, e115, e116, e117, e118, e119, h⟩ := hinv
      simp only at hdf hn109 H111 H112 H113 e114 e115 e116 e117 e118 e119
      have n120 := base_ne0 (m := 26) (b := nx109) (by omega)
      have n121 := base_ne (a := nx32) (m := 26) (b := nx109) (by omega)
      subst hdf hf109
      cases p109 with
      | zero =>
       have d122 : (decide (c109_20 < (IntKind.i64.wrap ((IntKind.i64.wrap (r29.SightStreet.Eye.High - r29.SightStreet.Eye.Low)) + 1)))) = false := cnt_not_lt hp109
       simp only [g_sight_Melts_l1, hs, reduceCtorEq] at h
       replace h := kG109 _ h
       try dsimp only at h
       try simp only [hs] at h
       cases d123 : (c109_5)
       ·simp only [d123, hs, reduceCtorEq] at h
        cases d124 : (c109_6)
        ·simp only [d124, hs, reduceCtorEq] at h
         have b125 := And.intro d23 (And.intro g33 (And.intro d107 (And.intro g110 (And.intro d122 (And.intro d123 d124)))))
         simp only [vz, tyf, b125, (ix24 o28), n39, w108, n120, n121, e114, e115, e116, e117, e118, e119, H111, H112, H113, nm, seval]
         refine opd_ret (x := (.lit (.int .i64 1))) (by first | (simp only [Tryz.results68, resV, resL, resV1, tgt_ptr, tgt_tp, uw, cr, tyf, b125, (ix24 o28), n39, w108, n120, n121, H111, H112, H113, nm, seval] <;> rfl) | rfl) ?_
         cases g126 : (roomOk 8 (List.length (([] : List Int) ++ [1])))
         ·simp only [g126, hs, reduceCtorEq] at h
          exact absurd h kN32
         simp only [g126, hs, reduceCtorEq] at h
         simp only [vz, tyf, b125, (ix24 o28), n39, w108, n120, n121, H111, H112, H113, e35, e36, e37, e38, g126, nm, seval]
         refine k_appN (w := 1) (enc := eI) (ys := ([1])) (el2 := (some 34)) (fun _ => rfl) lf54 ao54 Tryz.underlying54 (by first | rfl | assumption | (simp only [updH_apply, without_apply, et54, n39, n120, n121, H111, H112, H113, nm, seval] <;> rfl) | (simp only [updH_apply, without_apply, cellsL_cons, cellsL_nil, mV_app, mV_app0, tyf, b125, (ix24 o28), n39, w108, n120, n121, H111, H112, H113, e35, e36, e37, e38, g126, nm, seval]; done)) (Nat.zero_lt_succ _) g126 ?_
         simp only [vz, tyf, b125, (ix24 o28), n39, w108, n120, n121, H111, H112, H113, e35, e36, e37, e38, g126, nm, seval]
         exact ⟨p32, Nat.lt_succ_self _, by rw [hI32]; refine ⟨p32, c32_29 + 1, (([] : List Int) ++ [1]), .ref (nx32 + 9) 0 (List.length (([] : List Int) ++ [1])) 1 (List.length (([] : List Int) ++ [1])), rfl, cnt_lo hi32, cnt_next hp32, rfl, (show 26 ≤ nx109 + 8 by omega), ?_, e35, e36, ?_, ?_, Or.inl ⟨nx32 + 9, (some 34), rfl, (by first | omega | (simp only [nm, seval]; omega)), (by first | omega | (intro hh; simp only [n39, n120, n121, reduceCtorEq] at hh)), ?_⟩, h⟩ <;> first | (simp only [ua, b125, n39, w108, n120, n121, H111, H112, H113, e35, e36, e37, e38, nm, seval] <;> rfl) | rfl⟩
        simp only [d124, hs, reduceCtorEq] at h
        have b127 := And.intro d23 (And.intro g33 (And.intro d107 (And.intro g110 (And.intro d122 (And.intro d123 d124)))))
        simp only [vz, tyf, b127, (ix24 o28), n39, w108, n120, n121, e114, e115, e116, e117, e118, e119, H111, H112, H113, nm, seval]
        refine opd_ret (x := (.lit (.int .i64 2))) (by first | (simp only [Tryz.results68, resV, resL, resV1, tgt_ptr, tgt_tp, uw, cr, tyf, b127, (ix24 o28), n39, w108, n120, n121, H111, H112, H113, nm, seval] <;> rfl) | rfl) ?_
        cases g128 : (roomOk 8 (List.length (([] : List Int) ++ [2])))
        ·simp only [g128, hs, reduceCtorEq] at h
         exact absurd h kN32
        simp only [g128, hs, reduceCtorEq] at h
        simp only [vz, tyf, b127, (ix24 o28), n39, w108, n120, n121, H111, H112, H113, e35, e36, e37, e38, g128, nm, seval]
        refine k_appN (w := 1) (enc := eI) (ys := ([2])) (el2 := (some 34)) (fun _ => rfl) lf54 ao54 Tryz.underlying54 (by first | rfl | assumption | (simp only [updH_apply, without_apply, et54, n39, n120, n121, H111, H112, H113, nm, seval] <;> rfl) | (simp only [updH_apply, without_apply, cellsL_cons, cellsL_nil, mV_app, mV_app0, tyf, b127, (ix24 o28), n39, w108, n120, n121, H111, H112, H113, e35, e36, e37, e38, g128, nm, seval]; done)) (Nat.zero_lt_succ _) g128 ?_
        simp only [vz, tyf, b127, (ix24 o28), n39, w108, n120, n121, H111, H112, H113, e35, e36, e37, e38, g128, nm, seval]
        exact ⟨p32, Nat.lt_succ_self _, by rw [hI32]; refine ⟨p32, c32_29 + 1, (([] : List Int) ++ [2]), .ref (nx32 + 9) 0 (List.length (([] : List Int) ++ [2])) 1 (List.length (([] : List Int) ++ [2])), rfl, cnt_lo hi32, cnt_next hp32, rfl, (show 26 ≤ nx109 + 8 by omega), ?_, e35, e36, ?_, ?_, Or.inl ⟨nx32 + 9, (some 34), rfl, (by first | omega | (simp only [nm, seval]; omega)), (by first | omega | (intro hh; simp only [n39, n120, n121, reduceCtorEq] at hh)), ?_⟩, h⟩ <;> first | (simp only [ua, b127, n39, w108, n120, n121, H111, H112, H113, e35, e36, e37, e38, nm, seval] <;> rfl) | rfl⟩
       simp only [d123, hs, reduceCtorEq] at h
       simp only [vz, tyf, d23, (ix24 o28), g33, n39, d107, w108, g110, n120, n121, e114, e115, e116, e117, e118, e119, H111, H112, H113, d122, d123, nm, seval]
       refine opd_ret (x := (.lit (.int .i64 3))) (by first | (simp only [Tryz.results68, resV, resL, resV1, tgt_ptr, tgt_tp, uw, cr, tyf, d23, (ix24 o28), g33, n39, d107, w108, g110, n120, n121, H111, H112, H113, d122, d123, nm, seval] <;> rfl) | rfl) ?_
       cases g129 : (roomOk 8 (List.length (([] : List Int) ++ [3])))
       ·simp only [g129, hs, reduceCtorEq] at h
        exact absurd h kN32
       simp only [g129, hs, reduceCtorEq] at h
       simp only [vz, tyf, d23, (ix24 o28), g33, n39, d107, w108, g110, n120, n121, H111, H112, H113, d122, d123, e35, e36, e37, e38, g129, nm, seval]
       refine k_appN (w := 1) (enc := eI) (ys := ([3])) (el2 := (some 34)) (fun _ => rfl) lf54 ao54 Tryz.underlying54 (by first | rfl | assumption | (simp only [updH_apply, without_apply, et54, n39, n120, n121, H111, H112, H113, nm, seval] <;> rfl) | (simp only [updH_apply, without_apply, cellsL_cons, cellsL_nil, mV_app, mV_app0, tyf, d23, (ix24 o28), g33, n39, d107, w108, g110, n120, n121, H111, H112, H113, d122, d123, e35, e36, e37, e38, g129, nm, seval]; done)) (Nat.zero_lt_succ _) g129 ?_
       simp only [vz, tyf, d23, (ix24 o28), g33, n39, d107, w108, g110, n120, n121, H111, H112, H113, d122, d123, e35, e36, e37, e38, g129, nm, seval]
       exact ⟨p32, Nat.lt_succ_self _, by rw [hI32]; refine ⟨p32, c32_29 + 1, (([] : List Int) ++ [3]), .ref (nx32 + 9) 0 (List.length (([] : List Int) ++ [3])) 1 (List.length (([] : List Int) ++ [3])), rfl, cnt_lo hi32, cnt_next hp32, rfl, (show 26 ≤ nx109 + 6 by omega), ?_, e35, e36, ?_, ?_, Or.inl ⟨nx32 + 9, (some 34), rfl, (by first | omega | (simp only [nm, seval]; omega)), (by first | omega | (intro hh; simp only [n39, n120, n121, reduceCtorEq] at hh)), ?_⟩, h⟩ <;> first | (simp only [ua, d23, n39, d107, w108, n120, n121, H111, H112, H113, d122, d123, e35, e36, e37, e38, nm, seval] <;> rfl) | rfl⟩
      | succ p109 =>
       have d130 : (decide (c109_20 < (IntKind.i64.wrap ((IntKind.i64.wrap (r29.SightStreet.Eye.High - r29.SightStreet.Eye.Low)) + 1)))) = true := cnt_lt hp109
       have w131 := cnt_wrap hi109 hp109 g110
       simp only [g_sight_Melts_l1, hs, reduceCtorEq] at h
       cases g133 : (boundOk (IntKind.i64.wrap ((IntKind.i64.wrap (r29.SightStreet.Light.High - r29.SightStreet.Light.Low)) + 1)))
       ·simp only [g133, hs, reduceCtorEq] at h
        exact absurd h kN109
       simp only [g133, hs, reduceCtorEq] at h
       simp only [vz, tyf, d23, (ix24 o28), g33, n39, d107, w108, g110, n120, n121, e114, e115, e116, e117, e118, e119, H111, H112, H113, d130, w131, g133, nm, seval]
       obtain ⟨K132, h, kR132, kG132, kB132, kN132⟩ := lbind_intro h kN109
       obtain ⟨f132, hf132, h⟩ := call5 h
       obtain ⟨I132, hI132⟩ : ∃ I : Nat → St → Prop, I = (fun m st => ∃ (p132 : Nat) (c132_33 : Int) (c132_5 : Bool) (c132_6 : Bool) (c132_o0 : Int), p132 = m ∧ loOk c132_33 = true ∧ Int.toNat ((IntKind.i64.wrap ((IntKind.i64.wrap (r29.SightStreet.Light.High - r29.SightStreet.Light.Low)) + 1)) - c132_33) = p132 ∧ st.df = [] ∧ nx109 + 14 ≤ st.nx ∧ st.H 17 = some (.cells (some 97) (cGsightview r29)) ∧ st.H (nx32 + 2) = some (.cells (some 3) ([.lit (.int .i64 c32_29)])) ∧ st.H (nx32 + 11) = some (.cells (some 97) ((cGSightStreet r29.SightStreet) ++ (cGSightPlace r29.SightPlace) ++ (cGSightBoard r29.board) ++ [.lit (.int .i64 c132_o0)])) ∧ st.tm 1 = .fn (.func 71) [] [.ptr (nx32 + 2) 0] ∧ st.tm 2 = .ptr (nx32 + 11) 0 ∧ st.tm 7 = .lit (.int .i64 c109_20) ∧ st.tm 19 = .lit (.int .i64 (IntKind.i64.wrap ((IntKind.i64.wrap (r29.SightStreet.Eye.High - r29.SightStreet.Eye.Low)) + 1))) ∧ st.tm 20 = .lit (.int .i64 c109_20) ∧ st.tm 32 = .lit (.int .i64 (IntKind.i64.wrap ((IntKind.i64.wrap (r29.SightStreet.Light.High - r29.SightStreet.Light.Low)) + 1))) ∧ st.tm 5 = .lit (.bool c132_5) ∧ st.tm 6 = .lit (.bool c132_6) ∧ st.tm 33 = .lit (.int .i64 c132_33) ∧ K132 (f132 p132 c132_33 c132_5 c132_6 c132_o0)) := ⟨_, rfl⟩
       refine loopK mixed (by kernel_rfl) I132 (Int.toNat ((IntKind.i64.wrap ((IntKind.i64.wrap (r29.SightStreet.Light.High - r29.SightStreet.Light.Low)) + 1)) - 0)) (by rw [hI132]; refine ⟨Int.toNat ((IntKind.i64.wrap ((IntKind.i64.wrap (r29.SightStreet.Light.High - r29.SightStreet.Light.Low)) + 1)) - 0), 0, c109_5, c109_6, c109_o0, rfl, (by rfl), rfl, rfl, (show nx109 + 14 ≤ nx109 + 14 by omega), ?_, ?_, ?_, e114, e115, ?_, e116, e119, ?_, e117, e118, ?_, h⟩ <;> first | (simp only [ua, d23, n39, d107, w108, n120, n121, e114, e115, e116, e117, e118, e119, H111, H112, H113, d130, w131, nm, seval] <;> rfl) | rfl) ?_
       rintro m ⟨tm, H, nx132, df⟩ hinv
       rw [hI132] at hinv
       obtain ⟨p132, c132_33, c132_5, c132_6, c132_o0, rfl, hi132, hp132, hdf, hn132, H134, H135, H136, e137, e138, e139, e140, e141, e142, e143, e144, e145, h⟩ := hinv
       simp only at hdf hn132 H134 H135 H136 e137 e138 e139 e140 e141 e142 e143 e144 e145
       have n146 := base_ne0 (m := 26) (b := nx132) (by omega)
       have n147 := base_ne (a := nx32) (m := 26) (b := nx132) (by omega)
       have n148 := base_ne (a := nx109) (m := 14) (b := nx132) (by omega)
       subst hdf hf132
       cases p132 with
       | zero =>
        have d149 : (decide (c132_33 < (IntKind.i64.wrap ((IntKind.i64.wrap (r29.SightStreet.Light.High - r29.SightStreet.Light.Low)) + 1)))) = false := cnt_not_lt hp132
        simp only [g_sight_Melts_l2, hs, reduceCtorEq] at h
        replace h := kG132 _ h
        try dsimp only at h
        try simp only [hs] at h
        simp only [vz, tyf, d23, (ix24 o28), g33, n39, d107, w108, g110, n120, n121, d130, w131, g133, n146, n147, n148, e137, e138, e139, e140, e141, e142, e143, e144, e145, H134, H135, H136, d149, nm, seval]
        exact ⟨p109, Nat.lt_succ_self _, by rw [hI109]; refine ⟨p109, c109_20 + 1, c132_5, c132_6, c132_o0, rfl, cnt_lo hi109, cnt_next hp109, rfl, (show nx32 + 26 ≤ nx132 + 3 by omega), ?_, ?_, ?_, e137, e138, e140, e143, e144, ?_, h⟩ <;> first | (simp only [ua, d23, n39, d107, w108, n120, n121, d130, w131, n146, n147, n148, e137, e138, e139, e140, e141, e142, e143, e144, e145, H134, H135, H136, d149, nm, seval] <;> rfl) | rfl⟩
       | succ p132 =>
        have d150 : (decide (c132_33 < (IntKind.i64.wrap ((IntKind.i64.wrap (r29.SightStreet.Light.High - r29.SightStreet.Light.Low)) + 1)))) = true := cnt_lt hp132
        have w151 := cnt_wrap hi132 hp132 g133
        simp only [g_sight_Melts_l2, hs, reduceCtorEq] at h
        simp only [vz, tyf, d23, (ix24 o28), g33, n39, d107, w108, g110, n120, n121, d130, w131, g133, n146, n147, n148, e137, e138, e139, e140, e141, e142, e143, e144, e145, H134, H135, H136, d150, w151, nm, seval]
        refine kopen ?_
        rw [openK_eq]
        refine VOpen.run mixed Tryz.call71 Tryz.func71 rfl (by simp [Tryz.ntmps71]; kernel_rfl) ?_
        cases o153 : (g_sight_view_isApart (Gsightview.mk r29.SightStreet r29.SightPlace r29.board (IntKind.i64.wrap ((IntKind.i64.wrap (r29.SightStreet.Eye.Low + c109_20)) * (IntKind.i64.wrap (r29.SightStreet.Light.Low + c132_33))))) c32_29) with
        | none =>
         simp only [o153, hs, reduceCtorEq] at h
         exact absurd h kN132
        | some r152 =>
         simp only [o153, hs, reduceCtorEq] at h
         simp only [vz, tyf, d23, (ix24 o28), g33, n39, d107, w108, g110, n120, n121, d130, w131, g133, n146, n147, n148, H134, H135, H136, d150, w151, nm, seval]
         refine ktree (args0 := [.agg (cGsightview (Gsightview.mk r29.SightStreet r29.SightPlace r29.board (IntKind.i64.wrap ((IntKind.i64.wrap (r29.SightStreet.Eye.Low + c109_20)) * (IntKind.i64.wrap (r29.SightStreet.Light.Low + c132_33)))))), .lit (.int .i64 c32_29)]) (by first | (simp only [nrm, tynrm] <;> rfl) | rfl) (by simp only [tre, tytre, Bool.and_self]) (g_sight_view_isApart_ok _ _ _ o153) ?_
         refine fin_cut (fun tm => tm 6 = .lit (.bool r152) ∧ True) (by refine ⟨?_, trivial⟩ <;> first | (simp only [ua, d23, n39, d107, w108, n120, n121, d130, w131, n146, n147, n148, H134, H135, H136, d150, w151, nm, seval] <;> rfl) | rfl) ?_
         rintro tm ⟨e154, _⟩
         have b155 := And.intro d23 (And.intro g33 (And.intro d107 (And.intro g110 (And.intro d130 (And.intro g133 d150)))))
         simp only [vz, tyf, b155, (ix24 o28), n39, w108, n120, n121, w131, n146, n147, n148, H134, H135, H136, w151, e154, nm, seval]
         refine opd_ret (x := (.lit (.bool (!r152)))) (by first | (simp only [Tryz.results71, resV, resL, resV1, tgt_ptr, tgt_tp, uw, cr, tyf, b155, (ix24 o28), n39, w108, n120, n121, w131, n146, n147, n148, H134, H135, H136, w151, nm, seval] <;> rfl) | rfl) ?_
         cases d156 : (c132_5)
         ·simp only [d156, hs, reduceCtorEq] at h
          cases d157 : (c132_6)
          ·simp only [d157, hs, reduceCtorEq] at h
           cases d158 : (r152)
           ·simp only [d158, hs, reduceCtorEq] at h
            replace h := kB132 _ _ h
            try dsimp only at h
            try simp only [hs] at h
            replace h := kG109 _ h
            try dsimp only at h
            try simp only [hs] at h
            simp only [vz, tyf, b155, (ix24 o28), n39, w108, n120, n121, w131, n146, n147, n148, H134, H135, H136, w151, e137, e138, e139, e140, e141, e142, e143, e144, e145, d156, d157, d158, nm, seval]
            refine opd_ret (x := (.lit (.int .i64 2))) (by first | (simp only [Tryz.results68, resV, resL, resV1, tgt_ptr, tgt_tp, uw, cr, tyf, b155, (ix24 o28), n39, w108, n120, n121, w131, n146, n147, n148, H134, H135, H136, w151, d156, d157, d158, nm, seval] <;> rfl) | rfl) ?_
            cases g159 : (roomOk 8 (List.length (([] : List Int) ++ [2])))
            ·simp only [g159, hs, reduceCtorEq] at h
             exact absurd h kN32
            simp only [g159, hs, reduceCtorEq] at h
            simp only [vz, tyf, b155, (ix24 o28), n39, w108, n120, n121, w131, n146, n147, n148, H134, H135, H136, w151, d156, d157, d158, e35, e36, e37, e38, g159, nm, seval]
            refine k_appN (w := 1) (enc := eI) (ys := ([2])) (el2 := (some 34)) (fun _ => rfl) lf54 ao54 Tryz.underlying54 (by first | rfl | assumption | (simp only [updH_apply, without_apply, et54, n39, n120, n121, n146, n147, n148, H134, H135, H136, nm, seval] <;> rfl) | (simp only [updH_apply, without_apply, cellsL_cons, cellsL_nil, mV_app, mV_app0, tyf, b155, (ix24 o28), n39, w108, n120, n121, w131, n146, n147, n148, H134, H135, H136, w151, d156, d157, d158, e35, e36, e37, e38, g159, nm, seval]; done)) (Nat.zero_lt_succ _) g159 ?_
            simp only [vz, tyf, b155, (ix24 o28), n39, w108, n120, n121, w131, n146, n147, n148, H134, H135, H136, w151, d156, d157, d158, e35, e36, e37, e38, g159, nm, seval]
            exact ⟨p32, Nat.lt_succ_self _, by rw [hI32]; refine ⟨p32, c32_29 + 1, (([] : List Int) ++ [2]), .ref (nx32 + 9) 0 (List.length (([] : List Int) ++ [2])) 1 (List.length (([] : List Int) ++ [2])), rfl, cnt_lo hi32, cnt_next hp32, rfl, (show 26 ≤ nx132 + 51 by omega), ?_, e35, e36, ?_, ?_, Or.inl ⟨nx32 + 9, (some 34), rfl, (by first | omega | (simp only [nm, seval]; omega)), (by first | omega | (intro hh; simp only [n39, n120, n121, n146, n147, n148, reduceCtorEq] at hh)), ?_⟩, h⟩ <;> first | (simp only [ua, b155, n39, w108, n120, n121, w131, n146, n147, n148, H134, H135, H136, w151, d156, d157, d158, e35, e36, e37, e38, nm, seval] <;> rfl) | rfl⟩
           simp only [d158, hs, reduceCtorEq] at h
           simp only [vz, tyf, b155, (ix24 o28), n39, w108, n120, n121, w131, n146, n147, n148, H134, H135, H136, w151, e137, e138, e139, e140, e141, e142, e143, e144, e145, d156, d157, d158, nm, seval]
           exact ⟨p132, Nat.lt_succ_self _, by rw [hI132]; refine ⟨p132, c132_33 + 1, false, false, IntKind.i64.wrap ((IntKind.i64.wrap (r29.SightStreet.Eye.Low + c109_20)) * (IntKind.i64.wrap (r29.SightStreet.Light.Low + c132_33))), rfl, cnt_lo hi132, cnt_next hp132, rfl, (show nx109 + 14 ≤ nx132 + 46 by omega), ?_, ?_, ?_, e137, e138, e139, e140, e141, e142, ?_, ?_, ?_, h⟩ <;> first | (simp only [ua, b155, n39, w108, n120, n121, w131, n146, n147, n148, H134, H135, H136, w151, e137, e138, e139, e140, e141, e142, e143, e144, e145, d156, d157, d158, nm, seval] <;> rfl) | rfl⟩
          simp only [d157, hs, reduceCtorEq] at h
          replace h := kB132 _ _ h
          try dsimp only at h
          try simp only [hs] at h
          replace h := kG109 _ h
          try dsimp only at h
          try simp only [hs] at h
          simp only [vz, tyf, b155, (ix24 o28), n39, w108, n120, n121, w131, n146, n147, n148, H134, H135, H136, w151, e137, e138, e139, e140, e141, e142, e143, e144, e145, d156, d157, nm, seval]
          refine opd_ret (x := (.lit (.int .i64 2))) (by first | (simp only [Tryz.results68, resV, resL, resV1, tgt_ptr, tgt_tp, uw, cr, tyf, b155, (ix24 o28), n39, w108, n120, n121, w131, n146, n147, n148, H134, H135, H136, w151, d156, d157, nm, seval] <;> rfl) | rfl) ?_
          cases g160 : (roomOk 8 (List.length (([] : List Int) ++ [2])))
          ·simp only [g160, hs, reduceCtorEq] at h
           exact absurd h kN32
          simp only [g160, hs, reduceCtorEq] at h
          simp only [vz, tyf, b155, (ix24 o28), n39, w108, n120, n121, w131, n146, n147, n148, H134, H135, H136, w151, d156, d157, e35, e36, e37, e38, g160, nm, seval]
          refine k_appN (w := 1) (enc := eI) (ys := ([2])) (el2 := (some 34)) (fun _ => rfl) lf54 ao54 Tryz.underlying54 (by first | rfl | assumption | (simp only [updH_apply, without_apply, et54, n39, n120, n121, n146, n147, n148, H134, H135, H136, nm, seval] <;> rfl) | (simp only [updH_apply, without_apply, cellsL_cons, cellsL_nil, mV_app, mV_app0, tyf, b155, (ix24 o28), n39, w108, n120, n121, w131, n146, n147, n148, H134, H135, H136, w151, d156, d157, e35, e36, e37, e38, g160, nm, seval]; done)) (Nat.zero_lt_succ _) g160 ?_
          simp only [vz, tyf, b155, (ix24 o28), n39, w108, n120, n121, w131, n146, n147, n148, H134, H135, H136, w151, d156, d157, e35, e36, e37, e38, g160, nm, seval]
          exact ⟨p32, Nat.lt_succ_self _, by rw [hI32]; refine ⟨p32, c32_29 + 1, (([] : List Int) ++ [2]), .ref (nx32 + 9) 0 (List.length (([] : List Int) ++ [2])) 1 (List.length (([] : List Int) ++ [2])), rfl, cnt_lo hi32, cnt_next hp32, rfl, (show 26 ≤ nx132 + 51 by omega), ?_, e35, e36, ?_, ?_, Or.inl ⟨nx32 + 9, (some 34), rfl, (by first | omega | (simp only [nm, seval]; omega)), (by first | omega | (intro hh; simp only [n39, n120, n121, n146, n147, n148, reduceCtorEq] at hh)), ?_⟩, h⟩ <;> first | (simp only [ua, b155, n39, w108, n120, n121, w131, n146, n147, n148, H134, H135, H136, w151, d156, d157, e35, e36, e37, e38, nm, seval] <;> rfl) | rfl⟩
         simp only [d156, hs, reduceCtorEq] at h
         cases d161 : (c132_6)
         ·simp only [d161, hs, reduceCtorEq] at h
          cases d162 : (r152)
          ·simp only [d162, hs, reduceCtorEq] at h
           simp only [vz, tyf, b155, (ix24 o28), n39, w108, n120, n121, w131, n146, n147, n148, H134, H135, H136, w151, e137, e138, e139, e140, e141, e142, e143, e144, e145, d156, d161, d162, nm, seval]
           exact ⟨p132, Nat.lt_succ_self _, by rw [hI132]; refine ⟨p132, c132_33 + 1, true, true, IntKind.i64.wrap ((IntKind.i64.wrap (r29.SightStreet.Eye.Low + c109_20)) * (IntKind.i64.wrap (r29.SightStreet.Light.Low + c132_33))), rfl, cnt_lo hi132, cnt_next hp132, rfl, (show nx109 + 14 ≤ nx132 + 46 by omega), ?_, ?_, ?_, e137, e138, e139, e140, e141, e142, ?_, ?_, ?_, h⟩ <;> first | (simp only [ua, b155, n39, w108, n120, n121, w131, n146, n147, n148, H134, H135, H136, w151, e137, e138, e139, e140, e141, e142, e143, e144, e145, d156, d161, d162, nm, seval] <;> rfl) | rfl⟩
          simp only [d162, hs, reduceCtorEq] at h
          simp only [vz, tyf, b155, (ix24 o28), n39, w108, n120, n121, w131, n146, n147, n148, H134, H135, H136, w151, e137, e138, e139, e140, e141, e142, e143, e144, e145, d156, d161, d162, nm, seval]
          exact ⟨p132, Nat.lt_succ_self _, by rw [hI132]; refine ⟨p132, c132_33 + 1, false, false, IntKind.i64.wrap ((IntKind.i64.wrap (r29.SightStreet.Eye.Low + c109_20)) * (IntKind.i64.wrap (r29.SightStreet.Light.Low + c132_33))), rfl, cnt_lo hi132, cnt_next hp132, rfl, (show nx109 + 14 ≤ nx132 + 46 by omega), ?_, ?_, ?_, e137, e138, e139, e140, e141, e142, ?_, ?_, ?_, h⟩ <;> first | (simp only [ua, b155, n39, w108, n120, n121, w131, n146, n147, n148, H134, H135, H136, w151, e137, e138, e139, e140, e141, e142, e143, e144, e145, d156, d161, d162, nm, seval] <;> rfl) | rfl⟩
         simp only [d161, hs, reduceCtorEq] at h
         cases d163 : (r152)
         ·simp only [d163, hs, reduceCtorEq] at h
          simp only [vz, tyf, b155, (ix24 o28), n39, w108, n120, n121, w131, n146, n147, n148, H134, H135, H136, w151, e137, e138, e139, e140, e141, e142, e143, e144, e145, d156, d161, d163, nm, seval]
          exact ⟨p132, Nat.lt_succ_self _, by rw [hI132]; refine ⟨p132, c132_33 + 1, true, true, IntKind.i64.wrap ((IntKind.i64.wrap (r29.SightStreet.Eye.Low + c109_20)) * (IntKind.i64.wrap (r29.SightStreet.Light.Low + c132_33))), rfl, cnt_lo hi132, cnt_next hp132, rfl, (show nx109 + 14 ≤ nx132 + 46 by omega), ?_, ?_, ?_, e137, e138, e139, e140, e141, e142, ?_, ?_, ?_, h⟩ <;> first | (simp only [ua, b155, n39, w108, n120, n121, w131, n146, n147, n148, H134, H135, H136, w151, e137, e138, e139, e140, e141, e142, e143, e144, e145, d156, d161, d163, nm, seval] <;> rfl) | rfl⟩
         simp only [d163, hs, reduceCtorEq] at h
         replace h := kB132 _ _ h
         try dsimp only at h
         try simp only [hs] at h
         replace h := kG109 _ h
         try dsimp only at h
         try simp only [hs] at h
         simp only [vz, tyf, b155, (ix24 o28), n39, w108, n120, n121, w131, n146, n147, n148, H134, H135, H136, w151, e137, e138, e139, e140, e141, e142, e143, e144, e145, d156, d161, d163, nm, seval]
         refine opd_ret (x := (.lit (.int .i64 2))) (by first | (simp only [Tryz.results68, resV, resL, resV1, tgt_ptr, tgt_tp, uw, cr, tyf, b155, (ix24 o28), n39, w108, n120, n121, w131, n146, n147, n148, H134, H135, H136, w151, d156, d161, d163, nm, seval] <;> rfl) | rfl) ?_
         cases g164 : (roomOk 8 (List.length (([] : List Int) ++ [2])))
         ·simp only [g164, hs, reduceCtorEq] at h
          exact absurd h kN32
         simp only [g164, hs, reduceCtorEq] at h
         simp only [vz, tyf, b155, (ix24 o28), n39, w108, n120, n121, w131, n146, n147, n148, H134, H135, H136, w151, d156, d161, d163, e35, e36, e37, e38, g164, nm, seval]
         refine k_appN (w := 1) (enc := eI) (ys := ([2])) (el2 := (some 34)) (fun _ => rfl) lf54 ao54 Tryz.underlying54 (by first | rfl | assumption | (simp only [updH_apply, without_apply, et54, n39, n120, n121, n146, n147, n148, H134, H135, H136, nm, seval] <;> rfl) | (simp only [updH_apply, without_apply, cellsL_cons, cellsL_nil, mV_app, mV_app0, tyf, b155, (ix24 o28), n39, w108, n120, n121, w131, n146, n147, n148, H134, H135, H136, w151, d156, d161, d163, e35, e36, e37, e38, g164, nm, seval]; done)) (Nat.zero_lt_succ _) g164 ?_
         simp only [vz, tyf, b155, (ix24 o28), n39, w108, n120, n121, w131, n146, n147, n148, H134, H135, H136, w151, d156, d161, d163, e35, e36, e37, e38, g164, nm, seval]
         exact ⟨p32, Nat.lt_succ_self _, by rw [hI32]; refine ⟨p32, c32_29 + 1, (([] : List Int) ++ [2]), .ref (nx32 + 9) 0 (List.length (([] : List Int) ++ [2])) 1 (List.length (([] : List Int) ++ [2])), rfl, cnt_lo hi32, cnt_next hp32, rfl, (show 26 ≤ nx132 + 51 by omega), ?_, e35, e36, ?_, ?_, Or.inl ⟨nx32 + 9, (some 34), rfl, (by first | omega | (simp only [nm, seval]; omega)), (by first | omega | (intro hh; simp only [n39, n120, n121, n146, n147, n148, reduceCtorEq] at hh)), ?_⟩, h⟩ <;> first | (simp only [ua, b155, n39, w108, n120, n121, w131, n146, n147, n148, H134, H135, H136, w151, d156, d161, d163, e35, e36, e37, e38, nm, seval] <;> rfl) | rfl⟩
end Go.V
end
