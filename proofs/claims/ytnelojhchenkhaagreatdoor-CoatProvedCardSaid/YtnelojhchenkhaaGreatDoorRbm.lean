/- Part of a proof: a logic of values by content, lifted functions, what follows. -/
import Derived.Test.YtnelojhchenkhaaGreatDoorRbf
import Derived.Test.YtnelojhchenkhaaGreatDoorRbh
import Derived.Test.YtnelojhchenkhaaGreatDoorRbk
import Derived.Test.YtnelojhchenkhaaGreatDoorRbl
set_option linter.all false
set_option maxRecDepth 4000
set_option maxHeartbeats 4000000
section
namespace Go.V
open Go Go.Proofs
def g_coat_firstProof_l1 (x1_plan : List Int) (c0_13 : Int) (e0 : GSpan) : Nat → Int → (List Int) → (List GSpan) → (List Int) → (List GCoatCoat) → Option (LOut (List Int) ((List Int) × (List GSpan) × (List Int) × (List GCoatCoat)))
 | 0, c1_24, c1_5, c1_o0, c1_o1, c1_o2 => some (.go (c1_5, c1_o0, c1_o1, c1_o2))
 | k1 + 1, c1_24, c1_5, c1_o0, c1_o1, c1_o2 => Option.bind (g_coat_foreseen (GCoatSheet.mk c1_o0 c1_o1 c1_o2) c0_13 (IntKind.i64.wrap (e0.Low + c1_24))) (fun r8 => Option.bind (g_coat_surelyHolds r8 x1_plan) (fun r9 => cond (r9) (g_coat_firstProof_l1 x1_plan c0_13 e0 k1 (c1_24 + 1) c1_5 c1_o0 c1_o1 c1_o2) (cond (roomOk 8 (List.length (c1_5 ++ [IntKind.i64.wrap (e0.Low + c1_24)]))) (some (.brk 1 ((c1_5 ++ [IntKind.i64.wrap (e0.Low + c1_24)]), r8.Dry, r8.Work, r8.Coats))) none)))
def g_coat_firstProof_l0 (x1_plan : List Int) : List GSpan → Int → (List Int) → (List GSpan) → (List Int) → (List GCoatCoat) → Option (LOut (List Int) ((List Int) × (List GSpan) × (List Int) × (List GCoatCoat)))
 | [], c0_13, c0_5, c0_o0, c0_o1, c0_o2 => some (.go (c0_5, c0_o0, c0_o1, c0_o2))
 | e0 :: p0, c0_13, c0_5, c0_o0, c0_o1, c0_o2 => cond (boundOk (IntKind.i64.wrap ((IntKind.i64.wrap (e0.High - e0.Low)) + 1))) (lbind (g_coat_firstProof_l1 x1_plan c0_13 e0 (Int.toNat ((IntKind.i64.wrap ((IntKind.i64.wrap (e0.High - e0.Low)) + 1)) - 0)) 0 c0_5 c0_o0 c0_o1 c0_o2) (fun r11 => some (.ret r11)) (fun c10 => g_coat_firstProof_l0 x1_plan p0 (c0_13 + 1) c10.1 c10.2.1 c10.2.2.1 c10.2.2.2) (fun _ c12 => g_coat_firstProof_l0 x1_plan p0 (c0_13 + 1) c12.1 c12.2.1 c12.2.2.1 c12.2.2.2)) none
def g_coat_firstProof (x0_s : GCoatSheet) (x1_plan : List Int) : Option (List Int) := cond (lenOk x0_s.Dry) (lbind (g_coat_firstProof_l0 x1_plan x0_s.Dry 0 ([] : List Int) x0_s.Dry x0_s.Work x0_s.Coats) (fun r14 => some r14) (fun c13 => some c13.1) (fun _ _ => none)) none
theorem g_coat_firstProof_ok (x0_s : GCoatSheet) (x1_plan : List Int) (R : List Int) (h : g_coat_firstProof x0_s x1_plan = some R) : VPure Tryz.prog G0 73 [.agg (cGCoatSheet x0_s), .sl (cellsL eI x1_plan) (List.length x1_plan) false] (.tree (.sl (cellsL eI R) (List.length R) false)) := by
 refine VPure.runR mixed Tryz.call73 Tryz.func73 rfl (by simp [Tryz.ntmps73]; kernel_rfl) ?_
 obtain ⟨KF, h, kF, kN⟩ := fun_intro h
 simp only [g_coat_firstProof] at h
 simp only [vz, tyf, nm, seval]
 refine cwp_scope mixed (by kernel_rfl) ?_
 cases g16 : (lenOk x0_s.Dry)
 ·simp only [g16, hs] at h
  exact absurd h kN
 simp only [g16, hs] at h
 simp only [vz, tyf, g16, nm, seval]
 obtain ⟨K15, h, kR15, kG15, kB15, kN15⟩ := lbind_intro h kN
 obtain ⟨f15, hf15, h⟩ := call6 h
 obtain ⟨I15, hI15⟩ : ∃ I : Nat → St → Prop, I = (fun m st => ∃ (p15 : List GSpan) (c15_13 : Int) (c15_5 : List Int) (c15_o0 : List GSpan) (c15_o1 : List Int) (c15_o2 : List GCoatCoat) (y15_0 : VV), m = List.length p15 ∧ 0 ≤ c15_13 ∧ List.drop (Int.toNat c15_13) x0_s.Dry = p15 ∧ st.df = [] ∧ 7 ≤ st.nx ∧ st.H 0 = some (.cells (some 26) ([.sl (cellsL cGSpan c15_o0) (List.length c15_o0) false] ++ [.sl (cellsL eI c15_o1) (List.length c15_o1) false] ++ [.sl (cellsL cGCoatCoat c15_o2) (List.length c15_o2) false])) ∧ st.tm 1 = .sl (cellsL eI x1_plan) (List.length x1_plan) false ∧ st.tm 2 = .ptr 0 0 ∧ st.tm 11 = .sl (cellsL cGSpan x0_s.Dry) (List.length x0_s.Dry) false ∧ st.tm 12 = .lit (.int .i64 (List.length x0_s.Dry : Int)) ∧ st.tm 5 = y15_0 ∧ st.tm 13 = .lit (.int .i64 c15_13) ∧ ((∃ (β : Nat) (el : Option TypeId), y15_0 = .ref β 0 (List.length c15_5) 1 (List.length c15_5) ∧ β < st.nx ∧ β ≠ 0 ∧ st.H β = some (.cells el (cellsL eI c15_5))) ∨ (y15_0 = .lit (.slice none 0 0) ∧ c15_5 = [])) ∧ K15 (f15 p15 c15_13 c15_5 c15_o0 c15_o1 c15_o2)) := ⟨_, rfl⟩
 refine loopK mixed (by kernel_rfl) I15 (List.length x0_s.Dry) (by rw [hI15]; refine ⟨x0_s.Dry, 0, ([] : List Int), x0_s.Dry, x0_s.Work, x0_s.Coats, .lit (.slice none 0 0), rfl, Int.le_refl _, rfl, rfl, (show 7 ≤ 7 by omega), ?_, ?_, ?_, ?_, ?_, ?_, ?_, Or.inr ⟨rfl, rfl⟩, h⟩ <;> first | (simp only [ua, nm, seval] <;> rfl) | rfl) ?_
 rintro m ⟨tm, H, nx15, df⟩ hinv
 rw [hI15] at hinv
 obtain ⟨p15, c15_13, c15_5, c15_o0, c15_o1, c15_o2, y15_0, rfl, hi15, hp15, hdf, hn15, H17, e18, e19, e20, e21, e22, e23, ow15_0, h⟩ := hinv
 simp only at hdf hn15 H17 e18 e19 e20 e21 e22 e23 ow15_0
 have n24 := base_ne0 (m := 7) (b := nx15) (by omega)
 subst hdf hf15
 rcases ow15_0 with ⟨b15_0, el15_0, rfl, lq26, lq27, H25⟩ | ⟨rfl, rfl⟩
 ·have q26 := own_lt lq26
  have q27 := ne_f lq27
  cases p15 with
  | nil =>
   have d28 : (decide (c15_13 < (List.length x0_s.Dry : Int))) = false := not_lt_of_drop hi15 hp15
   simp only [g_coat_firstProof_l0, hs, reduceCtorEq] at h
   replace h := kG15 _ h
   try dsimp only at h
   try simp only [hs] at h
   try simp only [vz, tyf, g16, n24, e18, e19, e20, e21, e22, e23, H17, q26, H25, q27, d28, nm, seval]
   refine opd_ret (x := (.ref b15_0 0 (List.length c15_5) 1 (List.length c15_5))) (by first | (simp only [Tryz.results73, resV, resL, resV1, tgt_ptr, tgt_tp, uw, cr, tyf, g16, n24, H17, q26, H25, q27, d28, nm, seval] <;> rfl) | rfl) ?_
   obtain rfl := kF _ h
   refine rr_tree ?_ ?_
   ·simp only [tre, tytre, Bool.and_self]
   ·first | (simp only [outV, uw, showV_ref, cr, tyf, nrm, tynrm, g16, n24, e18, e19, e20, e21, e22, e23, H17, q26, H25, q27, d28, nm, seval] <;> rfl) | rfl
  | cons e15 p15 =>
   have d29 : (decide (c15_13 < (List.length x0_s.Dry : Int))) = true := lt_of_drop hi15 hp15
   have o31 := getI_of_drop hi15 hp15
   have w30 := wrap_next hi15 hp15 g16
   simp only [g_coat_firstProof_l0, hs, reduceCtorEq] at h
   cases g33 : (boundOk (IntKind.i64.wrap ((IntKind.i64.wrap (e15.High - e15.Low)) + 1)))
   ·simp only [g33, hs] at h
    exact absurd h kN15
   simp only [g33, hs] at h
   simp only [vz, tyf, g16, n24, e18, e19, e20, e21, e22, e23, H17, q26, H25, q27, d29, (ix22 o31), w30, g33, nm, seval]
   obtain ⟨K32, h, kR32, kG32, kB32, kN32⟩ := lbind_intro h kN15
   obtain ⟨f32, hf32, h⟩ := call6 h
   obtain ⟨I32, hI32⟩ : ∃ I : Nat → St → Prop, I = (fun m st => ∃ (p32 : Nat) (c32_24 : Int) (c32_5 : List Int) (c32_o0 : List GSpan) (c32_o1 : List Int) (c32_o2 : List GCoatCoat) (y32_0 : VV), p32 = m ∧ loOk c32_24 = true ∧ Int.toNat ((IntKind.i64.wrap ((IntKind.i64.wrap (e15.High - e15.Low)) + 1)) - c32_24) = p32 ∧ st.df = [] ∧ nx15 + 14 ≤ st.nx ∧ st.H 0 = some (.cells (some 26) ([.sl (cellsL cGSpan c32_o0) (List.length c32_o0) false] ++ [.sl (cellsL eI c32_o1) (List.length c32_o1) false] ++ [.sl (cellsL cGCoatCoat c32_o2) (List.length c32_o2) false])) ∧ st.H (nx15 + 4) = some (.cells (some 89) (cGSpan e15)) ∧ st.tm 1 = .sl (cellsL eI x1_plan) (List.length x1_plan) false ∧ st.tm 2 = .ptr 0 0 ∧ st.tm 6 = .lit (.int .i64 c15_13) ∧ st.tm 7 = .ptr (nx15 + 4) 0 ∧ st.tm 11 = .sl (cellsL cGSpan x0_s.Dry) (List.length x0_s.Dry) false ∧ st.tm 12 = .lit (.int .i64 (List.length x0_s.Dry : Int)) ∧ st.tm 13 = .lit (.int .i64 c15_13) ∧ st.tm 23 = .lit (.int .i64 (IntKind.i64.wrap ((IntKind.i64.wrap (e15.High - e15.Low)) + 1))) ∧ st.tm 5 = y32_0 ∧ st.tm 24 = .lit (.int .i64 c32_24) ∧ ((∃ (β : Nat) (el : Option TypeId), y32_0 = .ref β 0 (List.length c32_5) 1 (List.length c32_5) ∧ β < st.nx ∧ β ≠ 0 ∧ β ≠ nx15 + 4 ∧ st.H β = some (.cells el (cellsL eI c32_5))) ∨ (y32_0 = .lit (.slice none 0 0) ∧ c32_5 = [])) ∧ K32 (f32 p32 c32_24 c32_5 c32_o0 c32_o1 c32_o2)) := ⟨_, rfl⟩
   refine loopK mixed (by kernel_rfl) I32 (Int.toNat ((IntKind.i64.wrap ((IntKind.i64.wrap (e15.High - e15.Low)) + 1)) - 0)) (by rw [hI32]; refine ⟨Int.toNat ((IntKind.i64.wrap ((IntKind.i64.wrap (e15.High - e15.Low)) + 1)) - 0), 0, c15_5, c15_o0, c15_o1, c15_o2, .ref b15_0 0 (List.length c15_5) 1 (List.length c15_5), rfl, (by rfl), rfl, rfl, (show nx15 + 14 ≤ nx15 + 14 by omega), ?_, ?_, e18, e19, ?_, ?_, e20, e21, e23, ?_, ?_, ?_, Or.inl ⟨b15_0, el15_0, rfl, (by first | omega | (simp only [nm, seval]; omega)), (by first | omega | (intro hh; simp only [n24, q26, q27, reduceCtorEq] at hh)), (by first | omega | (intro hh; simp only [n24, q26, q27, reduceCtorEq] at hh)), ?_⟩, h⟩ <;> first | (simp only [ua, n24, e18, e19, e20, e21, e22, e23, H17, q26, H25, q27, d29, w30, nm, seval] <;> rfl) | rfl) ?_
   rintro m ⟨tm, H, nx32, df⟩ hinv
   rw [hI32] at hinv
   obtain ⟨p32, c32_24, c32_5, c32_o0, c32_o1, c32_o2, y32_0, rfl, hi32, hp32, hdf, hn32, H34, H35, e36, e37, e38, e39, e40, e41, e42, e43, e44, e45, ow32_0, h⟩ := hinv
   simp only at hdf hn32 H34 H35 e36 e37 e38 e39 e40 e41 e42 e43 e44 e45 ow32_0
   have n46 := base_ne0 (m := 7) (b := nx32) (by omega)
   have n47 := base_ne (a := nx15) (m := 14) (b := nx32) (by omega)
   subst hdf hf32
   rcases ow32_0 with ⟨b32_0, el32_0, rfl, lq49, lq50, lq51, H48⟩ | ⟨rfl, rfl⟩
   ·have q49 := own_lt lq49
    have q50 := ne_f lq50
    have q51 := ne_f lq51
    cases p32 with
    | zero =>
     have d52 : (decide (c32_24 < (IntKind.i64.wrap ((IntKind.i64.wrap (e15.High - e15.Low)) + 1)))) = false := cnt_not_lt hp32
     simp only [g_coat_firstProof_l1, hs, reduceCtorEq] at h
     replace h := kG32 _ h
     try dsimp only at h
     try simp only [hs] at h
     simp only [vz, tyf, g16, n24, q26, q27, d29, (ix22 o31), w30, g33, n46, n47, e36, e37, e38, e39, e40, e41, e42, e43, e44, e45, H34, H35, q49, H48, q50, q51, d52, nm, seval]
     exact ⟨List.length p15, Nat.lt_succ_self _, by rw [hI15]; refine ⟨p15, c15_13 + 1, c32_5, c32_o0, c32_o1, c32_o2, .ref b32_0 0 (List.length c32_5) 1 (List.length c32_5), rfl, Int.le_trans hi15 (Int.le_add_one (Int.le_refl _)), drop_next hi15 hp15, rfl, (show 7 ≤ nx32 + 3 by omega), ?_, e36, e37, e40, e41, ?_, ?_, Or.inl ⟨b32_0, el32_0, rfl, (by first | omega | (simp only [nm, seval]; omega)), (by first | omega | (intro hh; simp only [n24, q26, q27, n46, n47, q49, q50, q51, reduceCtorEq] at hh)), ?_⟩, h⟩ <;> first | (simp only [ua, n24, q26, q27, d29, w30, n46, n47, e36, e37, e38, e39, e40, e41, e42, e43, e44, e45, H34, H35, q49, H48, q50, q51, d52, nm, seval] <;> rfl) | rfl⟩
    | succ p32 =>
     have d53 : (decide (c32_24 < (IntKind.i64.wrap ((IntKind.i64.wrap (e15.High - e15.Low)) + 1)))) = true := cnt_lt hp32
     have w54 := cnt_wrap hi32 hp32 g33
     simp only [g_coat_firstProof_l1, hs, reduceCtorEq] at h
     rcases o56 : (g_coat_foreseen (GCoatSheet.mk c32_o0 c32_o1 c32_o2) c15_13 (IntKind.i64.wrap (e15.Low + c32_24))) with _ | r55
     ·simp only [o56, hs] at h
      exact absurd h kN32
     simp only [o56, hs] at h
     simp only [vz, tyf, g16, n24, q26, q27, d29, (ix22 o31), w30, g33, n46, n47, e36, e37, e38, e39, e40, e41, e42, e43, e44, e45, H34, H35, q49, H48, q50, q51, d53, w54, nm, seval]
     refine ktree (args0 := [.agg (cGCoatSheet (GCoatSheet.mk c32_o0 c32_o1 c32_o2)), .lit (.int .i64 c15_13), .lit (.int .i64 (IntKind.i64.wrap (e15.Low + c32_24)))]) (by first | (simp only [nrm, tynrm] <;> rfl) | rfl) (by simp only [tre, tytre, Bool.and_self]) (g_coat_foreseen_ok _ _ _ _ o56) ?_
     refine fin_cut (fun tm => tm 1 = .sl (cellsL eI x1_plan) (List.length x1_plan) false ∧ tm 2 = .ptr 0 0 ∧ tm 5 = .ref b32_0 0 (List.length c32_5) 1 (List.length c32_5) ∧ tm 6 = .lit (.int .i64 c15_13) ∧ tm 7 = .ptr (nx15 + 4) 0 ∧ tm 8 = .lit (.int .i64 c32_24) ∧ tm 11 = .sl (cellsL cGSpan x0_s.Dry) (List.length x0_s.Dry) false ∧ tm 12 = .lit (.int .i64 (List.length x0_s.Dry : Int)) ∧ tm 13 = .lit (.int .i64 c15_13) ∧ tm 23 = .lit (.int .i64 (IntKind.i64.wrap ((IntKind.i64.wrap (e15.High - e15.Low)) + 1))) ∧ tm 24 = .lit (.int .i64 c32_24) ∧ tm 33 = .agg (cGCoatSheet r55) ∧ True) (by refine ⟨e36, e37, e44, e38, e39, ?_, e40, e41, e42, e43, e45, ?_, trivial⟩ <;> first | (simp only [ua, n24, q26, q27, d29, w30, n46, n47, e36, e37, e38, e39, e40, e41, e42, e43, e44, e45, H34, H35, q49, H48, q50, q51, d53, w54, nm, seval] <;> rfl) | rfl) ?_
     rintro tm ⟨e57, e58, e59, e60, e61, e62, e63, e64, e65, e66, e67, e68, _⟩
     have b69 := And.intro g16 (And.intro n24 (And.intro q26 (And.intro q27 (And.intro d29 (And.intro w30 (And.intro g33 (And.intro n46 (And.intro n47 (And.intro H34 (And.intro H35 (And.intro q49 (And.intro H48 (And.intro q50 (And.intro q51 (And.intro d53 w54)))))))))))))))
     rcases o71 : (g_coat_surelyHolds r55 x1_plan) with _ | r70
     ·simp only [o71, hs] at h
      exact absurd h kN32
     simp only [o71, hs] at h
     simp only [vz, tyf, b69, (ix22 o31), e57, e58, e59, e60, e61, e62, e63, e64, e65, e66, e67, e68, nm, seval]
     refine ktree (args0 := [.agg (cGCoatSheet r55), .sl (cellsL eI x1_plan) (List.length x1_plan) false]) (by first | (simp only [nrm, tynrm] <;> rfl) | rfl) (by simp only [tre, tytre, Bool.and_self]) (g_coat_surelyHolds_ok _ _ _ o71) ?_
     refine fin_cut (fun tm => tm 1 = .sl (cellsL eI x1_plan) (List.length x1_plan) false ∧ tm 2 = .ptr 0 0 ∧ tm 5 = .ref b32_0 0 (List.length c32_5) 1 (List.length c32_5) ∧ tm 6 = .lit (.int .i64 c15_13) ∧ tm 7 = .ptr (nx15 + 4) 0 ∧ tm 8 = .lit (.int .i64 c32_24) ∧ tm 9 = .ptr (nx32 + 10) 0 ∧ tm 11 = .sl (cellsL cGSpan x0_s.Dry) (List.length x0_s.Dry) false ∧ tm 12 = .lit (.int .i64 (List.length x0_s.Dry : Int)) ∧ tm 13 = .lit (.int .i64 c15_13) ∧ tm 23 = .lit (.int .i64 (IntKind.i64.wrap ((IntKind.i64.wrap (e15.High - e15.Low)) + 1))) ∧ tm 24 = .lit (.int .i64 c32_24) ∧ tm 36 = .lit (.bool r70) ∧ True) (by refine ⟨e57, e58, e59, e60, e61, e62, ?_, e63, e64, e65, e66, e67, ?_, trivial⟩ <;> first | (simp only [ua, b69, e57, e58, e59, e60, e61, e62, e63, e64, e65, e66, e67, e68, nm, seval] <;> rfl) | rfl) ?_
     rintro tm ⟨e72, e73, e74, e75, e76, e77, e78, e79, e80, e81, e82, e83, e84, _⟩
     cases d85 : (r70)
     ·simp only [d85, hs] at h
      simp only [vz, tyf, b69, (ix22 o31), e72, e73, e74, e75, e76, e77, e78, e79, e80, e81, e82, e83, e84, d85, nm, seval]
      refine cwp_drawTF (fun tm => tm 1 = .sl (cellsL eI x1_plan) (List.length x1_plan) false ∧ tm 2 = .ptr 0 0 ∧ tm 5 = .ref b32_0 0 (List.length c32_5) 1 (List.length c32_5) ∧ tm 7 = .ptr (nx15 + 4) 0 ∧ tm 8 = .lit (.int .i64 c32_24) ∧ tm 9 = .ptr (nx32 + 10) 0 ∧ tm 11 = .sl (cellsL cGSpan x0_s.Dry) (List.length x0_s.Dry) false ∧ tm 12 = .lit (.int .i64 (List.length x0_s.Dry : Int)) ∧ tm 13 = .lit (.int .i64 c15_13) ∧ True) (by refine ⟨e72, e73, e74, e76, e77, e78, e79, e80, e81, trivial⟩ <;> first | (simp only [ua, b69, e72, e73, e74, e75, e76, e77, e78, e79, e80, e81, e82, e83, e84, d85, nm, seval] <;> rfl) | rfl) ?_
      rintro tm ⟨e86, e87, e88, e89, e90, e91, e92, e93, e94, _⟩
      cases g95 : (roomOk 8 (List.length (c32_5 ++ [IntKind.i64.wrap (e15.Low + c32_24)])))
      ·simp only [g95, hs] at h
       exact absurd h kN32
      simp only [g95, hs] at h
      simp only [vz, tyf, b69, (ix22 o31), d85, e86, e87, e88, e89, e90, e91, e92, e93, e94, g95, nm, seval]
      refine k_app (w := 1) (enc := eI) (xs := c32_5) (ys := ([IntKind.i64.wrap (e15.Low + c32_24)])) (el := el32_0) (el2 := (some 3)) (fun _ => rfl) lf23 ao23 Tryz.underlying23 (by first | rfl | assumption | (simp only [updH_apply, without_apply, et23, b69, nm, seval] <;> rfl) | (simp only [updH_apply, without_apply, cellsL_cons, cellsL_nil, mV_app, mV_app0, tyf, b69, (ix22 o31), d85, e86, e87, e88, e89, e90, e91, e92, e93, e94, g95, nm, seval]; done)) (by first | rfl | assumption | (simp only [updH_apply, without_apply, et23, b69, nm, seval] <;> rfl) | (simp only [updH_apply, without_apply, cellsL_cons, cellsL_nil, mV_app, mV_app0, tyf, b69, (ix22 o31), d85, e86, e87, e88, e89, e90, e91, e92, e93, e94, g95, nm, seval]; done)) (Nat.zero_lt_succ _) g95 ?_
      simp only [vz, tyf, b69, (ix22 o31), d85, e86, e87, e88, e89, e90, e91, e92, e93, e94, g95, nm, seval]
      refine drawK_nil ⟨?_, ?_⟩
      ·simp only [traceR_cons, traceR_nil, hitK_quiet, hitK_nil, and_true, true_and]
       repeat' (first | exact trivial | refine And.intro ?_ ?_ | rw [hitK_quiet] | rw [hitK_cons] | exact Or.inl (by decide +kernel) | exact Or.inl (by dsimp only; decide +kernel) | (refine Or.inr ⟨?_, ?_⟩ <;> simp; done) | (refine Or.inr ⟨?_, ?_⟩ <;> simp <;> omega) | (refine Or.inr ⟨?_, ?_⟩ <;> simp [VEff.wr] <;> omega))
      replace h := kB32 _ _ h
      try dsimp only at h
      try simp only [hs] at h
      simp only [vz, tyf, b69, (ix22 o31), d85, e86, e87, e88, e89, e90, e91, e92, e93, e94, g95, nm, seval]
      exact ⟨List.length p15, Nat.lt_succ_self _, by rw [hI15]; refine ⟨p15, c15_13 + 1, (c32_5 ++ [IntKind.i64.wrap (e15.Low + c32_24)]), r55.Dry, r55.Work, r55.Coats, .ref (nx32 + 23) 0 (List.length (c32_5 ++ [IntKind.i64.wrap (e15.Low + c32_24)])) 1 (List.length (c32_5 ++ [IntKind.i64.wrap (e15.Low + c32_24)])), rfl, Int.le_trans hi15 (Int.le_add_one (Int.le_refl _)), drop_next hi15 hp15, rfl, (show 7 ≤ nx32 + 28 by omega), ?_, e86, e87, e92, e93, ?_, ?_, Or.inl ⟨nx32 + 23, (sameEl el32_0 3), rfl, (by first | omega | (simp only [nm, seval]; omega)), (by first | omega | (intro hh; simp only [b69, reduceCtorEq] at hh)), ?_⟩, h⟩ <;> first | (simp only [ua, b69, d85, e86, e87, e88, e89, e90, e91, e92, e93, e94, nm, seval] <;> rfl) | rfl⟩
     simp only [d85, hs] at h
     simp only [vz, tyf, b69, (ix22 o31), e72, e73, e74, e75, e76, e77, e78, e79, e80, e81, e82, e83, e84, d85, nm, seval]
     exact ⟨p32, Nat.lt_succ_self _, by rw [hI32]; refine ⟨p32, c32_24 + 1, c32_5, c32_o0, c32_o1, c32_o2, .ref b32_0 0 (List.length c32_5) 1 (List.length c32_5), rfl, cnt_lo hi32, cnt_next hp32, rfl, (show nx15 + 14 ≤ nx32 + 18 by omega), ?_, ?_, e72, e73, e75, e76, e79, e80, e81, e82, ?_, ?_, Or.inl ⟨b32_0, el32_0, rfl, (by first | omega | (simp only [nm, seval]; omega)), (by first | omega | (intro hh; simp only [b69, reduceCtorEq] at hh)), (by first | omega | (intro hh; simp only [b69, reduceCtorEq] at hh)), ?_⟩, h⟩ <;> first | (simp only [ua, b69, e72, e73, e74, e75, e76, e77, e78, e79, e80, e81, e82, e83, e84, d85, nm, seval] <;> rfl) | rfl⟩
   ·cases p32 with
    | zero =>
     have d96 : (decide (c32_24 < (IntKind.i64.wrap ((IntKind.i64.wrap (e15.High - e15.Low)) + 1)))) = false := cnt_not_lt hp32
     simp only [g_coat_firstProof_l1, hs, reduceCtorEq] at h
     replace h := kG32 _ h
     try dsimp only at h
     try simp only [hs] at h
     simp only [vz, tyf, g16, n24, q26, q27, d29, (ix22 o31), w30, g33, n46, n47, e36, e37, e38, e39, e40, e41, e42, e43, e44, e45, H34, H35, d96, nm, seval]
     exact ⟨List.length p15, Nat.lt_succ_self _, by rw [hI15]; refine ⟨p15, c15_13 + 1, ([] : List Int), c32_o0, c32_o1, c32_o2, .lit (.slice none 0 0), rfl, Int.le_trans hi15 (Int.le_add_one (Int.le_refl _)), drop_next hi15 hp15, rfl, (show 7 ≤ nx32 + 3 by omega), ?_, e36, e37, e40, e41, ?_, ?_, Or.inr ⟨rfl, rfl⟩, h⟩ <;> first | (simp only [ua, n24, q26, q27, d29, w30, n46, n47, e36, e37, e38, e39, e40, e41, e42, e43, e44, e45, H34, H35, d96, nm, seval] <;> rfl) | rfl⟩
    | succ p32 =>
     have d97 : (decide (c32_24 < (IntKind.i64.wrap ((IntKind.i64.wrap (e15.High - e15.Low)) + 1)))) = true := cnt_lt hp32
     have w98 := cnt_wrap hi32 hp32 g33
     simp only [g_coat_firstProof_l1, hs, reduceCtorEq] at h
     rcases o100 : (g_coat_foreseen (GCoatSheet.mk c32_o0 c32_o1 c32_o2) c15_13 (IntKind.i64.wrap (e15.Low + c32_24))) with _ | r99
     ·simp only [o100, hs] at h
      exact absurd h kN32
     simp only [o100, hs] at h
     simp only [vz, tyf, g16, n24, q26, q27, d29, (ix22 o31), w30, g33, n46, n47, e36, e37, e38, e39, e40, e41, e42, e43, e44, e45, H34, H35, d97, w98, nm, seval]
     refine ktree (args0 := [.agg (cGCoatSheet (GCoatSheet.mk c32_o0 c32_o1 c32_o2)), .lit (.int .i64 c15_13), .lit (.int .i64 (IntKind.i64.wrap (e15.Low + c32_24)))]) (by first | (simp only [nrm, tynrm] <;> rfl) | rfl) (by simp only [tre, tytre, Bool.and_self]) (g_coat_foreseen_ok _ _ _ _ o100) ?_
     refine fin_cut (fun tm => tm 1 = .sl (cellsL eI x1_plan) (List.length x1_plan) false ∧ tm 2 = .ptr 0 0 ∧ tm 5 = .lit (.slice none 0 0) ∧ tm 6 = .lit (.int .i64 c15_13) ∧ tm 7 = .ptr (nx15 + 4) 0 ∧ tm 8 = .lit (.int .i64 c32_24) ∧ tm 11 = .sl (cellsL cGSpan x0_s.Dry) (List.length x0_s.Dry) false ∧ tm 12 = .lit (.int .i64 (List.length x0_s.Dry : Int)) ∧ tm 13 = .lit (.int .i64 c15_13) ∧ tm 23 = .lit (.int .i64 (IntKind.i64.wrap ((IntKind.i64.wrap (e15.High - e15.Low)) + 1))) ∧ tm 24 = .lit (.int .i64 c32_24) ∧ tm 33 = .agg (cGCoatSheet r99) ∧ True) (by refine ⟨e36, e37, e44, e38, e39, ?_, e40, e41, e42, e43, e45, ?_, trivial⟩ <;> first | (simp only [ua, n24, q26, q27, d29, w30, n46, n47, e36, e37, e38, e39, e40, e41, e42, e43, e44, e45, H34, H35, d97, w98, nm, seval] <;> rfl) | rfl) ?_
     rintro tm ⟨e101, e102, e103, e104, e105, e106, e107, e108, e109, e110, e111, e112, _⟩
     have b113 := And.intro g16 (And.intro n24 (And.intro q26 (And.intro q27 (And.intro d29 (And.intro w30 (And.intro g33 (And.intro n46 (And.intro n47 (And.intro H34 (And.intro H35 (And.intro d97 w98)))))))))))
     rcases o115 : (g_coat_surelyHolds r99 x1_plan) with _ | r114
     ·simp only [o115, hs] at h
      exact absurd h kN32
     simp only [o115, hs] at h
     simp only [vz, tyf, b113, (ix22 o31), e101, e102, e103, e104, e105, e106, e107, e108, e109, e110, e111, e112, nm, seval]
     refine ktree (args0 := [.agg (cGCoatSheet r99), .sl (cellsL eI x1_plan) (List.length x1_plan) false]) (by first | (simp only [nrm, tynrm] <;> rfl) | rfl) (by simp only [tre, tytre, Bool.and_self]) (g_coat_surelyHolds_ok _ _ _ o115) ?_
     refine fin_cut (fun tm => tm 1 = .sl (cellsL eI x1_plan) (List.length x1_plan) false ∧ tm 2 = .ptr 0 0 ∧ tm 5 = .lit (.slice none 0 0) ∧ tm 6 = .lit (.int .i64 c15_13) ∧ tm 7 = .ptr (nx15 + 4) 0 ∧ tm 8 = .lit (.int .i64 c32_24) ∧ tm 9 = .ptr (nx32 + 10) 0 ∧ tm 11 = .sl (cellsL cGSpan x0_s.Dry) (List.length x0_s.Dry) false ∧ tm 12 = .lit (.int .i64 (List.length x0_s.Dry : Int)) ∧ tm 13 = .lit (.int .i64 c15_13) ∧ tm 23 = .lit (.int .i64 (IntKind.i64.wrap ((IntKind.i64.wrap (e15.High - e15.Low)) + 1))) ∧ tm 24 = .lit (.int .i64 c32_24) ∧ tm 36 = .lit (.bool r114) ∧ True) (by refine ⟨e101, e102, e103, e104, e105, e106, ?_, e107, e108, e109, e110, e111, ?_, trivial⟩ <;> first | (simp only [ua, b113, e101, e102, e103, e104, e105, e106, e107, e108, e109, e110, e111, e112, nm, seval] <;> rfl) | rfl) ?_
     rintro tm ⟨e116, e117, e118, e119, e120, e121, e122, e123, e124, e125, e126, e127, e128, _⟩
     cases d129 : (r114)
     ·simp only [d129, hs] at h
      simp only [vz, tyf, b113, (ix22 o31), e116, e117, e118, e119, e120, e121, e122, e123, e124, e125, e126, e127, e128, d129, nm, seval]
      refine cwp_drawTF (fun tm => tm 1 = .sl (cellsL eI x1_plan) (List.length x1_plan) false ∧ tm 2 = .ptr 0 0 ∧ tm 5 = .lit (.slice none 0 0) ∧ tm 7 = .ptr (nx15 + 4) 0 ∧ tm 8 = .lit (.int .i64 c32_24) ∧ tm 9 = .ptr (nx32 + 10) 0 ∧ tm 11 = .sl (cellsL cGSpan x0_s.Dry) (List.length x0_s.Dry) false ∧ tm 12 = .lit (.int .i64 (List.length x0_s.Dry : Int)) ∧ tm 13 = .lit (.int .i64 c15_13) ∧ True) (by refine ⟨e116, e117, e118, e120, e121, e122, e123, e124, e125, trivial⟩ <;> first | (simp only [ua, b113, e116, e117, e118, e119, e120, e121, e122, e123, e124, e125, e126, e127, e128, d129, nm, seval] <;> rfl) | rfl) ?_
      rintro tm ⟨e130, e131, e132, e133, e134, e135, e136, e137, e138, _⟩
      cases g139 : (roomOk 8 (List.length (([] : List Int) ++ [IntKind.i64.wrap (e15.Low + c32_24)])))
      ·simp only [g139, hs] at h
       exact absurd h kN32
      simp only [g139, hs] at h
      simp only [vz, tyf, b113, (ix22 o31), d129, e130, e131, e132, e133, e134, e135, e136, e137, e138, g139, nm, seval]
      refine k_appN (w := 1) (enc := eI) (ys := ([IntKind.i64.wrap (e15.Low + c32_24)])) (el2 := (some 3)) (fun _ => rfl) lf23 ao23 Tryz.underlying23 (by first | rfl | assumption | (simp only [updH_apply, without_apply, et23, b113, nm, seval] <;> rfl) | (simp only [updH_apply, without_apply, cellsL_cons, cellsL_nil, mV_app, mV_app0, tyf, b113, (ix22 o31), d129, e130, e131, e132, e133, e134, e135, e136, e137, e138, g139, nm, seval]; done)) (Nat.zero_lt_succ _) g139 ?_
      simp only [vz, tyf, b113, (ix22 o31), d129, e130, e131, e132, e133, e134, e135, e136, e137, e138, g139, nm, seval]
      refine drawK_nil ⟨?_, ?_⟩
      ·simp only [traceR_cons, traceR_nil, hitK_quiet, hitK_nil, and_true, true_and]
       repeat' (first | exact trivial | refine And.intro ?_ ?_ | rw [hitK_quiet] | rw [hitK_cons] | exact Or.inl (by decide +kernel) | exact Or.inl (by dsimp only; decide +kernel) | (refine Or.inr ⟨?_, ?_⟩ <;> simp; done) | (refine Or.inr ⟨?_, ?_⟩ <;> simp <;> omega) | (refine Or.inr ⟨?_, ?_⟩ <;> simp [VEff.wr] <;> omega))
      replace h := kB32 _ _ h
      try dsimp only at h
      try simp only [hs] at h
      simp only [vz, tyf, b113, (ix22 o31), d129, e130, e131, e132, e133, e134, e135, e136, e137, e138, g139, nm, seval]
      exact ⟨List.length p15, Nat.lt_succ_self _, by rw [hI15]; refine ⟨p15, c15_13 + 1, (([] : List Int) ++ [IntKind.i64.wrap (e15.Low + c32_24)]), r99.Dry, r99.Work, r99.Coats, .ref (nx32 + 23) 0 (List.length (([] : List Int) ++ [IntKind.i64.wrap (e15.Low + c32_24)])) 1 (List.length (([] : List Int) ++ [IntKind.i64.wrap (e15.Low + c32_24)])), rfl, Int.le_trans hi15 (Int.le_add_one (Int.le_refl _)), drop_next hi15 hp15, rfl, (show 7 ≤ nx32 + 28 by omega), ?_, e130, e131, e136, e137, ?_, ?_, Or.inl ⟨nx32 + 23, (some 3), rfl, (by first | omega | (simp only [nm, seval]; omega)), (by first | omega | (intro hh; simp only [b113, reduceCtorEq] at hh)), ?_⟩, h⟩ <;> first | (simp only [ua, b113, d129, e130, e131, e132, e133, e134, e135, e136, e137, e138, nm, seval] <;> rfl) | rfl⟩
     simp only [d129, hs] at h
     simp only [vz, tyf, b113, (ix22 o31), e116, e117, e118, e119, e120, e121, e122, e123, e124, e125, e126, e127, e128, d129, nm, seval]
     exact ⟨p32, Nat.lt_succ_self _, by rw [hI32]; refine ⟨p32, c32_24 + 1, ([] : List Int), c32_o0, c32_o1, c32_o2, .lit (.slice none 0 0), rfl, cnt_lo hi32, cnt_next hp32, rfl, (show nx15 + 14 ≤ nx32 + 18 by omega), ?_, ?_, e116, e117, e119, e120, e123, e124, e125, e126, ?_, ?_, Or.inr ⟨rfl, rfl⟩, h⟩ <;> first | (simp only [ua, b113, e116, e117, e118, e119, e120, e121, e122, e123, e124, e125, e126, e127, e128, d129, nm, seval] <;> rfl) | rfl⟩
 ·cases p15 with
  | nil =>
   have d140 : (decide (c15_13 < (List.length x0_s.Dry : Int))) = false := not_lt_of_drop hi15 hp15
   simp only [g_coat_firstProof_l0, hs, reduceCtorEq] at h
   replace h := kG15 _ h
   try dsimp only at h
   try simp only [hs] at h
   try simp only [vz, tyf, g16, n24, e18, e19, e20, e21, e22, e23, H17, d140, nm, seval]
   refine opd_ret (x := (.lit (.slice none 0 0))) (by first | (simp only [Tryz.results73, resV, resL, resV1, tgt_ptr, tgt_tp, uw, cr, tyf, g16, n24, H17, d140, nm, seval] <;> rfl) | rfl) ?_
   obtain rfl := kF _ h
   refine rr_tree ?_ ?_
   ·simp only [tre, tytre, Bool.and_self]
   ·first | (simp only [outV, uw, showV_ref, cr, tyf, nrm, tynrm, g16, n24, e18, e19, e20, e21, e22, e23, H17, d140, nm, seval] <;> rfl) | rfl
  | cons e15 p15 =>
   have d141 : (decide (c15_13 < (List.length x0_s.Dry : Int))) = true := lt_of_drop hi15 hp15
   have o143 := getI_of_drop hi15 hp15
   have w142 := wrap_next hi15 hp15 g16
   simp only [g_coat_firstProof_l0, hs, reduceCtorEq] at h
   cases g145 : (boundOk (IntKind.i64.wrap ((IntKind.i64.wrap (e15.High - e15.Low)) + 1)))
   ·simp only [g145, hs] at h
    exact absurd h kN15
   simp only [g145, hs] at h
   simp only [vz, tyf, g16, n24, e18, e19, e20, e21, e22, e23, H17, d141, (ix22 o143), w142, g145, nm, seval]
   obtain ⟨K144, h, kR144, kG144, kB144, kN144⟩ := lbind_intro h kN15
   obtain ⟨f144, hf144, h⟩ := call6 h
   obtain ⟨I144, hI144⟩ : ∃ I : Nat → St → Prop, I = (fun m st => ∃ (p144 : Nat) (c144_24 : Int) (c144_5 : List Int) (c144_o0 : List GSpan) (c144_o1 : List Int) (c144_o2 : List GCoatCoat) (y144_0 : VV), p144 = m ∧ loOk c144_24 = true ∧ Int.toNat ((IntKind.i64.wrap ((IntKind.i64.wrap (e15.High - e15.Low)) + 1)) - c144_24) = p144 ∧ st.df = [] ∧ nx15 + 14 ≤ st.nx ∧ st.H 0 = some (.cells (some 26) ([.sl (cellsL cGSpan c144_o0) (List.length c144_o0) false] ++ [.sl (cellsL eI c144_o1) (List.length c144_o1) false] ++ [.sl (cellsL cGCoatCoat c144_o2) (List.length c144_o2) false])) ∧ st.H (nx15 + 4) = some (.cells (some 89) (cGSpan e15)) ∧ st.tm 1 = .sl (cellsL eI x1_plan) (List.length x1_plan) false ∧ st.tm 2 = .ptr 0 0 ∧ st.tm 6 = .lit (.int .i64 c15_13) ∧ st.tm 7 = .ptr (nx15 + 4) 0 ∧ st.tm 11 = .sl (cellsL cGSpan x0_s.Dry) (List.length x0_s.Dry) false ∧ st.tm 12 = .lit (.int .i64 (List.length x0_s.Dry : Int)) ∧ st.tm 13 = .lit (.int .i64 c15_13) ∧ st.tm 23 = .lit (.int .i64 (IntKind.i64.wrap ((IntKind.i64.wrap (e15.High - e15.Low)) + 1))) ∧ st.tm 5 = y144_0 ∧ st.tm 24 = .lit (.int .i64 c144_24) ∧ ((∃ (β : Nat) (el : Option TypeId), y144_0 = .ref β 0 (List.length c144_5) 1 (List.length c144_5) ∧ β < st.nx ∧ β ≠ 0 ∧ β ≠ nx15 + 4 ∧ st.H β = some (.cells el (cellsL eI c144_5))) ∨ (y144_0 = .lit (.slice none 0 0) ∧ c144_5 = [])) ∧ K144 (f144 p144 c144_24 c144_5 c144_o0 c144_o1 c144_o2)) := ⟨_, rfl⟩
   refine loopK mixed (by kernel_rfl) I144 (Int.toNat ((IntKind.i64.wrap ((IntKind.i64.wrap (e15.High - e15.Low)) + 1)) - 0)) (by rw [hI144]; refine ⟨Int.toNat ((IntKind.i64.wrap ((IntKind.i64.wrap (e15.High - e15.Low)) + 1)) - 0), 0, ([] : List Int), c15_o0, c15_o1, c15_o2, .lit (.slice none 0 0), rfl, (by rfl), rfl, rfl, (show nx15 + 14 ≤ nx15 + 14 by omega), ?_, ?_, e18, e19, ?_, ?_, e20, e21, e23, ?_, ?_, ?_, Or.inr ⟨rfl, rfl⟩, h⟩ <;> first | (simp only [ua, n24, e18, e19, e20, e21, e22, e23, H17, d141, w142, nm, seval] <;> rfl) | rfl) ?_
   rintro m ⟨tm, H, nx144, df⟩ hinv
   rw [hI144] at hinv
   obtain ⟨p144, c144_24, c144_5, c144_o0, c144_o1, c144_o2, y144_0, rfl, hi144, hp144, hdf, hn144, H146, H147, e148, e149, e150, e151, e152, e153, e154, e155, e156, e157, ow144_0, h⟩ := hinv
   simp only at hdf hn144 H146 H147 e148 e149 e150 e151 e152 e153 e154 e155 e156 e157 ow144_0
   have n158 := base_ne0 (m := 7) (b := nx144) (by omega)
   have n159 := base_ne (a := nx15) (m := 14) (b := nx144) (by omega)
   subst hdf hf144
   rcases ow144_0 with ⟨b144_0, el144_0, rfl, lq161, lq162, lq163, H160⟩ | ⟨rfl, rfl⟩
   ·have q161 := own_lt lq161
    have q162 := ne_f lq162
    have q163 := ne_f lq163
    cases p144 with
    | zero =>
     have d164 : (decide (c144_24 < (IntKind.i64.wrap ((IntKind.i64.wrap (e15.High - e15.Low)) + 1)))) = false := cnt_not_lt hp144
     simp only [g_coat_firstProof_l1, hs, reduceCtorEq] at h
     replace h := kG144 _ h
     try dsimp only at h
     try simp only [hs] at h
     simp only [vz, tyf, g16, n24, d141, (ix22 o143), w142, g145, n158, n159, e148, e149, e150, e151, e152, e153, e154, e155, e156, e157, H146, H147, q161, H160, q162, q163, d164, nm, seval]
     exact ⟨List.length p15, Nat.lt_succ_self _, by rw [hI15]; refine ⟨p15, c15_13 + 1, c144_5, c144_o0, c144_o1, c144_o2, .ref b144_0 0 (List.length c144_5) 1 (List.length c144_5), rfl, Int.le_trans hi15 (Int.le_add_one (Int.le_refl _)), drop_next hi15 hp15, rfl, (show 7 ≤ nx144 + 3 by omega), ?_, e148, e149, e152, e153, ?_, ?_, Or.inl ⟨b144_0, el144_0, rfl, (by first | omega | (simp only [nm, seval]; omega)), (by first | omega | (intro hh; simp only [n24, n158, n159, q161, q162, q163, reduceCtorEq] at hh)), ?_⟩, h⟩ <;> first | (simp only [ua, n24, d141, w142, n158, n159, e148, e149, e150, e151, e152, e153, e154, e155, e156, e157, H146, H147, q161, H160, q162, q163, d164, nm, seval] <;> rfl) | rfl⟩
    | succ p144 =>
     have d165 : (decide (c144_24 < (IntKind.i64.wrap ((IntKind.i64.wrap (e15.High - e15.Low)) + 1)))) = true := cnt_lt hp144
     have w166 := cnt_wrap hi144 hp144 g145
     simp only [g_coat_firstProof_l1, hs, reduceCtorEq] at h
     rcases o168 : (g_coat_foreseen (GCoatSheet.mk c144_o0 c144_o1 c144_o2) c15_13 (IntKind.i64.wrap (e15.Low + c144_24))) with _ | r167
     ·simp only [o168, hs] at h
      exact absurd h kN144
     simp only [o168, hs] at h
     simp only [vz, tyf, g16, n24, d141, (ix22 o143), w142, g145, n158, n159, e148, e149, e150, e151, e152, e153, e154, e155, e156, e157, H146, H147, q161, H160, q162, q163, d165, w166, nm, seval]
     refine ktree (args0 := [.agg (cGCoatSheet (GCoatSheet.mk c144_o0 c144_o1 c144_o2)), .lit (.int .i64 c15_13), .lit (.int .i64 (IntKind.i64.wrap (e15.Low + c144_24)))]) (by first | (simp only [nrm, tynrm] <;> rfl) | rfl) (by simp only [tre, tytre, Bool.and_self]) (g_coat_foreseen_ok _ _ _ _ o168) ?_
     refine fin_cut (fun tm => tm 1 = .sl (cellsL eI x1_plan) (List.length x1_plan) false ∧ tm 2 = .ptr 0 0 ∧ tm 5 = .ref b144_0 0 (List.length c144_5) 1 (List.length c144_5) ∧ tm 6 = .lit (.int .i64 c15_13) ∧ tm 7 = .ptr (nx15 + 4) 0 ∧ tm 8 = .lit (.int .i64 c144_24) ∧ tm 11 = .sl (cellsL cGSpan x0_s.Dry) (List.length x0_s.Dry) false ∧ tm 12 = .lit (.int .i64 (List.length x0_s.Dry : Int)) ∧ tm 13 = .lit (.int .i64 c15_13) ∧ tm 23 = .lit (.int .i64 (IntKind.i64.wrap ((IntKind.i64.wrap (e15.High - e15.Low)) + 1))) ∧ tm 24 = .lit (.int .i64 c144_24) ∧ tm 33 = .agg (cGCoatSheet r167) ∧ True) (by refine ⟨e148, e149, e156, e150, e151, ?_, e152, e153, e154, e155, e157, ?_, trivial⟩ <;> first | (simp only [ua, n24, d141, w142, n158, n159, e148, e149, e150, e151, e152, e153, e154, e155, e156, e157, H146, H147, q161, H160, q162, q163, d165, w166, nm, seval] <;> rfl) | rfl) ?_
     rintro tm ⟨e169, e170, e171, e172, e173, e174, e175, e176, e177, e178, e179, e180, _⟩
     have b181 := And.intro g16 (And.intro n24 (And.intro d141 (And.intro w142 (And.intro g145 (And.intro n158 (And.intro n159 (And.intro H146 (And.intro H147 (And.intro q161 (And.intro H160 (And.intro q162 (And.intro q163 (And.intro d165 w166)))))))))))))
     rcases o183 : (g_coat_surelyHolds r167 x1_plan) with _ | r182
     ·simp only [o183, hs] at h
      exact absurd h kN144
     simp only [o183, hs] at h
     simp only [vz, tyf, b181, (ix22 o143), e169, e170, e171, e172, e173, e174, e175, e176, e177, e178, e179, e180, nm, seval]
     refine ktree (args0 := [.agg (cGCoatSheet r167), .sl (cellsL eI x1_plan) (List.length x1_plan) false]) (by first | (simp only [nrm, tynrm] <;> rfl) | rfl) (by simp only [tre, tytre, Bool.and_self]) (g_coat_surelyHolds_ok _ _ _ o183) ?_
     refine fin_cut (fun tm => tm 1 = .sl (cellsL eI x1_plan) (List.length x1_plan) false ∧ tm 2 = .ptr 0 0 ∧ tm 5 = .ref b144_0 0 (List.length c144_5) 1 (List.length c144_5) ∧ tm 6 = .lit (.int .i64 c15_13) ∧ tm 7 = .ptr (nx15 + 4) 0 ∧ tm 8 = .lit (.int .i64 c144_24) ∧ tm 9 = .ptr (nx144 + 10) 0 ∧ tm 11 = .sl (cellsL cGSpan x0_s.Dry) (List.length x0_s.Dry) false ∧ tm 12 = .lit (.int .i64 (List.length x0_s.Dry : Int)) ∧ tm 13 = .lit (.int .i64 c15_13) ∧ tm 23 = .lit (.int .i64 (IntKind.i64.wrap ((IntKind.i64.wrap (e15.High - e15.Low)) + 1))) ∧ tm 24 = .lit (.int .i64 c144_24) ∧ tm 36 = .lit (.bool r182) ∧ True) (by refine ⟨e169, e170, e171, e172, e173, e174, ?_, e175, e176, e177, e178, e179, ?_, trivial⟩ <;> first | (simp only [ua, b181, e169, e170, e171, e172, e173, e174, e175, e176, e177, e178, e179, e180, nm, seval] <;> rfl) | rfl) ?_
     rintro tm ⟨e184, e185, e186, e187, e188, e189, e190, e191, e192, e193, e194, e195, e196, _⟩
     cases d197 : (r182)
     ·simp only [d197, hs] at h
      simp only [vz, tyf, b181, (ix22 o143), e184, e185, e186, e187, e188, e189, e190, e191, e192, e193, e194, e195, e196, d197, nm, seval]
      refine cwp_drawTF (fun tm => tm 1 = .sl (cellsL eI x1_plan) (List.length x1_plan) false ∧ tm 2 = .ptr 0 0 ∧ tm 5 = .ref b144_0 0 (List.length c144_5) 1 (List.length c144_5) ∧ tm 7 = .ptr (nx15 + 4) 0 ∧ tm 8 = .lit (.int .i64 c144_24) ∧ tm 9 = .ptr (nx144 + 10) 0 ∧ tm 11 = .sl (cellsL cGSpan x0_s.Dry) (List.length x0_s.Dry) false ∧ tm 12 = .lit (.int .i64 (List.length x0_s.Dry : Int)) ∧ tm 13 = .lit (.int .i64 c15_13) ∧ True) (by refine ⟨e184, e185, e186, e188, e189, e190, e191, e192, e193, trivial⟩ <;> first | (simp only [ua, b181, e184, e185, e186, e187, e188, e189, e190, e191, e192, e193, e194, e195, e196, d197, nm, seval] <;> rfl) | rfl) ?_
      rintro tm ⟨e198, e199, e200, e201, e202, e203, e204, e205, e206, _⟩
      cases g207 : (roomOk 8 (List.length (c144_5 ++ [IntKind.i64.wrap (e15.Low + c144_24)])))
      ·simp only [g207, hs] at h
       exact absurd h kN144
      simp only [g207, hs] at h
      simp only [vz, tyf, b181, (ix22 o143), d197, e198, e199, e200, e201, e202, e203, e204, e205, e206, g207, nm, seval]
      refine k_app (w := 1) (enc := eI) (xs := c144_5) (ys := ([IntKind.i64.wrap (e15.Low + c144_24)])) (el := el144_0) (el2 := (some 3)) (fun _ => rfl) lf23 ao23 Tryz.underlying23 (by first | rfl | assumption | (simp only [updH_apply, without_apply, et23, b181, nm, seval] <;> rfl) | (simp only [updH_apply, without_apply, cellsL_cons, cellsL_nil, mV_app, mV_app0, tyf, b181, (ix22 o143), d197, e198, e199, e200, e201, e202, e203, e204, e205, e206, g207, nm, seval]; done)) (by first | rfl | assumption | (simp only [updH_apply, without_apply, et23, b181, nm, seval] <;> rfl) | (simp only [updH_apply, without_apply, cellsL_cons, cellsL_nil, mV_app, mV_app0, tyf, b181, (ix22 o143), d197, e198, e199, e200, e201, e202, e203, e204, e205, e206, g207, nm, seval]; done)) (Nat.zero_lt_succ _) g207 ?_
      simp only [vz, tyf, b181, (ix22 o143), d197, e198, e199, e200, e201, e202, e203, e204, e205, e206, g207, nm, seval]
      refine drawK_nil ⟨?_, ?_⟩
      ·simp only [traceR_cons, traceR_nil, hitK_quiet, hitK_nil, and_true, true_and]
       repeat' (first | exact trivial | refine And.intro ?_ ?_ | rw [hitK_quiet] | rw [hitK_cons] | exact Or.inl (by decide +kernel) | exact Or.inl (by dsimp only; decide +kernel) | (refine Or.inr ⟨?_, ?_⟩ <;> simp; done) | (refine Or.inr ⟨?_, ?_⟩ <;> simp <;> omega) | (refine Or.inr ⟨?_, ?_⟩ <;> simp [VEff.wr] <;> omega))
      replace h := kB144 _ _ h
      try dsimp only at h
      try simp only [hs] at h
      simp only [vz, tyf, b181, (ix22 o143), d197, e198, e199, e200, e201, e202, e203, e204, e205, e206, g207, nm, seval]
      exact ⟨List.length p15, Nat.lt_succ_self _, by rw [hI15]; refine ⟨p15, c15_13 + 1, (c144_5 ++ [IntKind.i64.wrap (e15.Low + c144_24)]), r167.Dry, r167.Work, r167.Coats, .ref (nx144 + 23) 0 (List.length (c144_5 ++ [IntKind.i64.wrap (e15.Low + c144_24)])) 1 (List.length (c144_5 ++ [IntKind.i64.wrap (e15.Low + c144_24)])), rfl, Int.le_trans hi15 (Int.le_add_one (Int.le_refl _)), drop_next hi15 hp15, rfl, (show 7 ≤ nx144 + 28 by omega), ?_, e198, e199, e204, e205, ?_, ?_, Or.inl ⟨nx144 + 23, (sameEl el144_0 3), rfl, (by first | omega | (simp only [nm, seval]; omega)), (by first | omega | (intro hh; simp only [b181, reduceCtorEq] at hh)), ?_⟩, h⟩ <;> first | (simp only [ua, b181, d197, e198, e199, e200, e201, e202, e203, e204, e205, e206, nm, seval] <;> rfl) | rfl⟩
     simp only [d197, hs] at h
     simp only [vz, tyf, b181, (ix22 o143), e184, e185, e186, e187, e188, e189, e190, e191, e192, e193, e194, e195, e196, d197, nm, seval]
     exact ⟨p144, Nat.lt_succ_self _, by rw [hI144]; refine ⟨p144, c144_24 + 1, c144_5, c144_o0, c144_o1, c144_o2, .ref b144_0 0 (List.length c144_5) 1 (List.length c144_5), rfl, cnt_lo hi144, cnt_next hp144, rfl, (show nx15 + 14 ≤ nx144 + 18 by omega), ?_, ?_, e184, e185, e187, e188, e191, e192, e193, e194, ?_, ?_, Or.inl ⟨b144_0, el144_0, rfl, (by first | omega | (simp only [nm, seval]; omega)), (by first | omega | (intro hh; simp only [b181, reduceCtorEq] at hh)), (by first | omega | (intro hh; simp only [b181, reduceCtorEq] at hh)), ?_⟩, h⟩ <;> first | (simp only [ua, b181, e184, e185, e186, e187, e188, e189, e190, e191, e192, e193, e194, e195, e196, d197, nm, seval] <;> rfl) | rfl⟩
   ·cases p144 with
    | zero =>
     have d208 : (decide (c144_24 < (IntKind.i64.wrap ((IntKind.i64.wrap (e15.High - e15.Low)) + 1)))) = false := cnt_not_lt hp144
     simp only [g_coat_firstProof_l1, hs, reduceCtorEq] at h
     replace h := kG144 _ h
     try dsimp only at h
     try simp only [hs] at h
     simp only [vz, tyf, g16, n24, d141, (ix22 o143), w142, g145, n158, n159, e148, e149, e150, e151, e152, e153, e154, e155, e156, e157, H146, H147, d208, nm, seval]
     exact ⟨List.length p15, Nat.lt_succ_self _, by rw [hI15]; refine ⟨p15, c15_13 + 1, ([] : List Int), c144_o0, c144_o1, c144_o2, .lit (.slice none 0 0), rfl, Int.le_trans hi15 (Int.le_add_one (Int.le_refl _)), drop_next hi15 hp15, rfl, (show 7 ≤ nx144 + 3 by omega), ?_, e148, e149, e152, e153, ?_, ?_, Or.inr ⟨rfl, rfl⟩, h⟩ <;> first | (simp only [ua, n24, d141, w142, n158, n159, e148, e149, e150, e151, e152, e153, e154, e155, e156, e157, H146, H147, d208, nm, seval] <;> rfl) | rfl⟩
    | succ p144 =>
     have d209 : (decide (c144_24 < (IntKind.i64.wrap ((IntKind.i64.wrap (e15.High - e15.Low)) + 1)))) = true := cnt_lt hp144
     have w210 := cnt_wrap hi144 hp144 g145
     simp only [g_coat_firstProof_l1, hs, reduceCtorEq] at h
     rcases o212 : (g_coat_foreseen (GCoatSheet.mk c144_o0 c144_o1 c144_o2) c15_13 (IntKind.i64.wrap (e15.Low + c144_24))) with _ | r211
     ·simp only [o212, hs] at h
      exact absurd h kN144
     simp only [o212, hs] at h
     simp only [vz, tyf, g16, n24, d141, (ix22 o143), w142, g145, n158, n159, e148, e149, e150, e151, e152, e153, e154, e155, e156, e157, H146, H147, d209, w210, nm, seval]
     refine ktree (args0 := [.agg (cGCoatSheet (GCoatSheet.mk c144_o0 c144_o1 c144_o2)), .lit (.int .i64 c15_13), .lit (.int .i64 (IntKind.i64.wrap (e15.Low + c144_24)))]) (by first | (simp only [nrm, tynrm] <;> rfl) | rfl) (by simp only [tre, tytre, Bool.and_self]) (g_coat_foreseen_ok _ _ _ _ o212) ?_
     refine fin_cut (fun tm => tm 1 = .sl (cellsL eI x1_plan) (List.length x1_plan) false ∧ tm 2 = .ptr 0 0 ∧ tm 5 = .lit (.slice none 0 0) ∧ tm 6 = .lit (.int .i64 c15_13) ∧ tm 7 = .ptr (nx15 + 4) 0 ∧ tm 8 = .lit (.int .i64 c144_24) ∧ tm 11 = .sl (cellsL cGSpan x0_s.Dry) (List.length x0_s.Dry) false ∧ tm 12 = .lit (.int .i64 (List.length x0_s.Dry : Int)) ∧ tm 13 = .lit (.int .i64 c15_13) ∧ tm 23 = .lit (.int .i64 (IntKind.i64.wrap ((IntKind.i64.wrap (e15.High - e15.Low)) + 1))) ∧ tm 24 = .lit (.int .i64 c144_24) ∧ tm 33 = .agg (cGCoatSheet r211) ∧ True) (by refine ⟨e148, e149, e156, e150, e151, ?_, e152, e153, e154, e155, e157, ?_, trivial⟩ <;> first | (simp only [ua, n24, d141, w142, n158, n159, e148, e149, e150, e151, e152, e153, e154, e155, e156, e157, H146, H147, d209, w210, nm, seval] <;> rfl) | rfl) ?_
     rintro tm ⟨e213, e214, e215, e216, e217, e218, e219, e220, e221, e222, e223, e224, _⟩
     have b225 := And.intro g16 (And.intro n24 (And.intro d141 (And.intro w142 (And.intro g145 (And.intro n158 (And.intro n159 (And.intro H146 (And.intro H147 (And.intro d209 w210)))))))))
     rcases o227 : (g_coat_surelyHolds r211 x1_plan) with _ | r226
     ·simp only [o227, hs] at h
      exact absurd h kN144
     simp only [o227, hs] at h
     simp only [vz, tyf, b225, (ix22 o143), e213, e214, e215, e216, e217, e218, e219, e220, e221, e222, e223, e224, nm, seval]
     refine ktree (args0 := [.agg (cGCoatSheet r211), .sl (cellsL eI x1_plan) (List.length x1_plan) false]) (by first | (simp only [nrm, tynrm] <;> rfl) | rfl) (by simp only [tre, tytre, Bool.and_self]) (g_coat_surelyHolds_ok _ _ _ o227) ?_
     refine fin_cut (fun tm => tm 1 = .sl (cellsL eI x1_plan) (List.length x1_plan) false ∧ tm 2 = .ptr 0 0 ∧ tm 5 = .lit (.slice none 0 0) ∧ tm 6 = .lit (.int .i64 c15_13) ∧ tm 7 = .ptr (nx15 + 4) 0 ∧ tm 8 = .lit (.int .i64 c144_24) ∧ tm 9 = .ptr (nx144 + 10) 0 ∧ tm 11 = .sl (cellsL cGSpan x0_s.Dry) (List.length x0_s.Dry) false ∧ tm 12 = .lit (.int .i64 (List.length x0_s.Dry : Int)) ∧ tm 13 = .lit (.int .i64 c15_13) ∧ tm 23 = .lit (.int .i64 (IntKind.i64.wrap ((IntKind.i64.wrap (e15.High - e15.Low)) + 1))) ∧ tm 24 = .lit (.int .i64 c144_24) ∧ tm 36 = .lit (.bool r226) ∧ True) (by refine ⟨e213, e214, e215, e216, e217, e218, ?_, e219, e220, e221, e222, e223, ?_, trivial⟩ <;> first | (simp only [ua, b225, e213, e214, e215, e216, e217, e218, e219, e220, e221, e222, e223, e224, nm, seval] <;> rfl) | rfl) ?_
     rintro tm ⟨e228, e229, e230, e231, e232, e233, e234, e235, e236, e237, e238, e239, e240, _⟩
     cases d241 : (r226)
     ·simp only [d241, hs] at h
      simp only [vz, tyf, b225, (ix22 o143), e228, e229, e230, e231, e232, e233, e234, e235, e236, e237, e238, e239, e240, d241, nm, seval]
      refine cwp_drawTF (fun tm => tm 1 = .sl (cellsL eI x1_plan) (List.length x1_plan) false ∧ tm 2 = .ptr 0 0 ∧ tm 5 = .lit (.slice none 0 0) ∧ tm 7 = .ptr (nx15 + 4) 0 ∧ tm 8 = .lit (.int .i64 c144_24) ∧ tm 9 = .ptr (nx144 + 10) 0 ∧ tm 11 = .sl (cellsL cGSpan x0_s.Dry) (List.length x0_s.Dry) false ∧ tm 12 = .lit (.int .i64 (List.length x0_s.Dry : Int)) ∧ tm 13 = .lit (.int .i64 c15_13) ∧ True) (by refine ⟨e228, e229, e230, e232, e233, e234, e235, e236, e237, trivial⟩ <;> first | (simp only [ua, b225, e228, e229, e230, e231, e232, e233, e234, e235, e236, e237, e238, e239, e240, d241, nm, seval] <;> rfl) | rfl) ?_
      rintro tm ⟨e242, e243, e244, e245, e246, e247, e248, e249, e250, _⟩
      cases g251 : (roomOk 8 (List.length (([] : List Int) ++ [IntKind.i64.wrap (e15.Low + c144_24)])))
      ·simp only [g251, hs] at h
       exact absurd h kN144
      simp only [g251, hs] at h
      simp only [vz, tyf, b225, (ix22 o143), d241, e242, e243, e244, e245, e246, e247, e248, e249, e250, g251, nm, seval]
      refine k_appN (w := 1) (enc := eI) (ys := ([IntKind.i64.wrap (e15.Low + c144_24)])) (el2 := (some 3)) (fun _ => rfl) lf23 ao23 Tryz.underlying23 (by first | rfl | assumption | (simp only [updH_apply, without_apply, et23, b225, nm, seval] <;> rfl) | (simp only [updH_apply, without_apply, cellsL_cons, cellsL_nil, mV_app, mV_app0, tyf, b225, (ix22 o143), d241, e242, e243, e244, e245, e246, e247, e248, e249, e250, g251, nm, seval]; done)) (Nat.zero_lt_succ _) g251 ?_
      simp only [vz, tyf, b225, (ix22 o143), d241, e242, e243, e244, e245, e246, e247, e248, e249, e250, g251, nm, seval]
      refine drawK_nil ⟨?_, ?_⟩
      ·simp only [traceR_cons, traceR_nil, hitK_quiet, hitK_nil, and_true, true_and]
       repeat' (first | exact trivial | refine And.intro ?_ ?_ | rw [hitK_quiet] | rw [hitK_cons] | exact Or.inl (by decide +kernel) | exact Or.inl (by dsimp only; decide +kernel) | (refine Or.inr ⟨?_, ?_⟩ <;> simp; done) | (refine Or.inr ⟨?_, ?_⟩ <;> simp <;> omega) | (refine Or.inr ⟨?_, ?_⟩ <;> simp [VEff.wr] <;> omega))
      replace h := kB144 _ _ h
      try dsimp only at h
      try simp only [hs] at h
      simp only [vz, tyf, b225, (ix22 o143), d241, e242, e243, e244, e245, e246, e247, e248, e249, e250, g251, nm, seval]
      exact ⟨List.length p15, Nat.lt_succ_self _, by rw [hI15]; refine ⟨p15, c15_13 + 1, (([] : List Int) ++ [IntKind.i64.wrap (e15.Low + c144_24)]), r211.Dry, r211.Work, r211.Coats, .ref (nx144 + 23) 0 (List.length (([] : List Int) ++ [IntKind.i64.wrap (e15.Low + c144_24)])) 1 (List.length (([] : List Int) ++ [IntKind.i64.wrap (e15.Low + c144_24)])), rfl, Int.le_trans hi15 (Int.le_add_one (Int.le_refl _)), drop_next hi15 hp15, rfl, (show 7 ≤ nx144 + 28 by omega), ?_, e242, e243, e248, e249, ?_, ?_, Or.inl ⟨nx144 + 23, (some 3), rfl, (by first | omega | (simp only [nm, seval]; omega)), (by first | omega | (intro hh; simp only [b225, reduceCtorEq] at hh)), ?_⟩, h⟩ <;> first | (simp only [ua, b225, d241, e242, e243, e244, e245, e246, e247, e248, e249, e250, nm, seval] <;> rfl) | rfl⟩
     simp only [d241, hs] at h
     simp only [vz, tyf, b225, (ix22 o143), e228, e229, e230, e231, e232, e233, e234, e235, e236, e237, e238, e239, e240, d241, nm, seval]
     exact ⟨p144, Nat.lt_succ_self _, by rw [hI144]; refine ⟨p144, c144_24 + 1, ([] : List Int), c144_o0, c144_o1, c144_o2, .lit (.slice none 0 0), rfl, cnt_lo hi144, cnt_next hp144, rfl, (show nx15 + 14 ≤ nx144 + 18 by omega), ?_, ?_, e228, e229, e231, e232, e235, e236, e237, e238, ?_, ?_, Or.inr ⟨rfl, rfl⟩, h⟩ <;> first | (simp only [ua, b225, e228, e229, e230, e231, e232, e233, e234, e235, e236, e237, e238, e239, e240, d241, nm, seval] <;> rfl) | rfl⟩
end Go.V
end
section
namespace Go.V
open Go Go.Proofs
def g_coat_Proof (x0_s : GCoatSheet) (x1_plan : List Int) : Option ((List Int) × Int) := Option.bind (g_coat_isSheet x0_s) (fun r1 => cond (r1) (Option.bind (g_coat_isPlan x0_s x1_plan) (fun r2 => cond (r2) (Option.bind (g_coat_surelyHolds x0_s x1_plan) (fun r3 => cond (r3) (some (([] : List Int), 5)) (Option.bind (g_coat_firstProof x0_s x1_plan) (fun r4 => some (r4, 0))))) (some (([] : List Int), 2)))) (some (([] : List Int), 2)))
theorem g_coat_Proof_ok (x0_s : GCoatSheet) (x1_plan : List Int) (R : (List Int) × Int) (h : g_coat_Proof x0_s x1_plan = some R) : VPure Tryz.prog G0 26 [.agg (cGCoatSheet x0_s), .sl (cellsL eI x1_plan) (List.length x1_plan) false] (.tree (.tup [.sl (cellsL eI R.1) (List.length R.1) false, .lit (.int .i64 R.2)])) := by
 refine VPure.runR mixed Tryz.call26 Tryz.func26 rfl (by simp [Tryz.ntmps26]; kernel_rfl) ?_
 obtain ⟨KF, h, kF, kN⟩ := fun_intro h
 simp only [g_coat_Proof] at h
 rcases o6 : (g_coat_isSheet x0_s) with _ | r5
 ·simp only [o6, hs] at h
  exact absurd h kN
 simp only [o6, hs] at h
 simp only [vz, tyf, nm, seval]
 refine ktree (args0 := [.agg (cGCoatSheet x0_s)]) (by first | (simp only [nrm, tynrm] <;> rfl) | rfl) (by simp only [tre, tytre, Bool.and_self]) (g_coat_isSheet_ok _ _ o6) ?_
 refine fin_cut (fun tm => tm 1 = .sl (cellsL eI x1_plan) (List.length x1_plan) false ∧ tm 2 = .ptr 0 0 ∧ tm 7 = .lit (.bool r5) ∧ True) (by refine ⟨?_, ?_, ?_, trivial⟩ <;> first | (simp only [ua, nm, seval] <;> rfl) | rfl) ?_
 rintro tm ⟨e7, e8, e9, _⟩
 cases d10 : (r5)
 ·simp only [d10, hs] at h
  try simp only [vz, tyf, e7, e8, e9, d10, nm, seval]
  refine opd_ret (x := (.tup [.lit (.slice none 0 0), .lit (.int .i64 2)])) (by first | (simp only [Tryz.results26, resV, resL, resV1, tgt_ptr, tgt_tp, uw, cr, tyf, d10, nm, seval] <;> rfl) | rfl) ?_
  obtain rfl := kF _ h
  refine rr_tree ?_ ?_
  ·simp only [tre, tytre, Bool.and_self]
  ·first | (simp only [outV, uw, showV_ref, cr, tyf, nrm, tynrm, e7, e8, e9, d10, nm, seval] <;> rfl) | rfl
 simp only [d10, hs] at h
 rcases o12 : (g_coat_isPlan x0_s x1_plan) with _ | r11
 ·simp only [o12, hs] at h
  exact absurd h kN
 simp only [o12, hs] at h
 simp only [vz, tyf, e7, e8, e9, d10, nm, seval]
 refine ktree (args0 := [.agg (cGCoatSheet x0_s), .sl (cellsL eI x1_plan) (List.length x1_plan) false]) (by first | (simp only [nrm, tynrm] <;> rfl) | rfl) (by simp only [tre, tytre, Bool.and_self]) (g_coat_isPlan_ok _ _ _ o12) ?_
 refine fin_cut (fun tm => tm 1 = .sl (cellsL eI x1_plan) (List.length x1_plan) false ∧ tm 2 = .ptr 0 0 ∧ tm 9 = .lit (.bool false) ∧ tm 12 = .lit (.bool r11) ∧ True) (by refine ⟨e7, e8, ?_, ?_, trivial⟩ <;> first | (simp only [ua, e7, e8, e9, d10, nm, seval] <;> rfl) | rfl) ?_
 rintro tm ⟨e13, e14, e15, e16, _⟩
 cases d17 : (r11)
 ·simp only [d17, hs] at h
  try simp only [vz, tyf, d10, e13, e14, e15, e16, d17, nm, seval]
  refine opd_ret (x := (.tup [.lit (.slice none 0 0), .lit (.int .i64 2)])) (by first | (simp only [Tryz.results26, resV, resL, resV1, tgt_ptr, tgt_tp, uw, cr, tyf, d10, d17, nm, seval] <;> rfl) | rfl) ?_
  obtain rfl := kF _ h
  refine rr_tree ?_ ?_
  ·simp only [tre, tytre, Bool.and_self]
  ·first | (simp only [outV, uw, showV_ref, cr, tyf, nrm, tynrm, d10, e13, e14, e15, e16, d17, nm, seval] <;> rfl) | rfl
 simp only [d17, hs] at h
 rcases o19 : (g_coat_surelyHolds x0_s x1_plan) with _ | r18
 ·simp only [o19, hs] at h
  exact absurd h kN
 simp only [o19, hs] at h
 simp only [vz, tyf, d10, e13, e14, e15, e16, d17, nm, seval]
 refine ktree (args0 := [.agg (cGCoatSheet x0_s), .sl (cellsL eI x1_plan) (List.length x1_plan) false]) (by first | (simp only [nrm, tynrm] <;> rfl) | rfl) (by simp only [tre, tytre, Bool.and_self]) (g_coat_surelyHolds_ok _ _ _ o19) ?_
 refine fin_cut (fun tm => tm 1 = .sl (cellsL eI x1_plan) (List.length x1_plan) false ∧ tm 2 = .ptr 0 0 ∧ tm 17 = .lit (.bool r18) ∧ True) (by refine ⟨e13, e14, ?_, trivial⟩ <;> first | (simp only [ua, d10, e13, e14, e15, e16, d17, nm, seval] <;> rfl) | rfl) ?_
 rintro tm ⟨e20, e21, e22, _⟩
 cases d23 : (r18)
 ·simp only [d23, hs] at h
  rcases o25 : (g_coat_firstProof x0_s x1_plan) with _ | r24
  ·simp only [o25, hs] at h
   exact absurd h kN
  simp only [o25, hs] at h
  simp only [vz, tyf, d10, d17, e20, e21, e22, d23, nm, seval]
  refine ktree (args0 := [.agg (cGCoatSheet x0_s), .sl (cellsL eI x1_plan) (List.length x1_plan) false]) (by first | (simp only [nrm, tynrm] <;> rfl) | rfl) (by simp only [tre, tytre, Bool.and_self]) (g_coat_firstProof_ok _ _ _ o25) ?_
  refine fin_cut (fun tm => tm 20 = .sl (cellsL eI r24) (List.length r24) false ∧ True) (by refine ⟨?_, trivial⟩ <;> first | (simp only [ua, d10, d17, e20, e21, e22, d23, nm, seval] <;> rfl) | rfl) ?_
  rintro tm ⟨e26, _⟩
  try simp only [vz, tyf, d10, d17, d23, e26, nm, seval]
  refine opd_ret (x := (.tup [.sl (cellsL eI r24) (List.length r24) false, .lit (.int .i64 0)])) (by first | (simp only [Tryz.results26, resV, resL, resV1, tgt_ptr, tgt_tp, uw, cr, tyf, d10, d17, d23, nm, seval] <;> rfl) | rfl) ?_
  obtain rfl := kF _ h
  refine rr_tree ?_ ?_
  ·simp only [tre, tytre, Bool.and_self]
  ·first | (simp only [outV, uw, showV_ref, cr, tyf, nrm, tynrm, d10, d17, d23, e26, nm, seval] <;> rfl) | rfl
 simp only [d23, hs] at h
 try simp only [vz, tyf, d10, d17, e20, e21, e22, d23, nm, seval]
 refine opd_ret (x := (.tup [.lit (.slice none 0 0), .lit (.int .i64 5)])) (by first | (simp only [Tryz.results26, resV, resL, resV1, tgt_ptr, tgt_tp, uw, cr, tyf, d10, d17, d23, nm, seval] <;> rfl) | rfl) ?_
 obtain rfl := kF _ h
 refine rr_tree ?_ ?_
 ·simp only [tre, tytre, Bool.and_self]
 ·first | (simp only [outV, uw, showV_ref, cr, tyf, nrm, tynrm, d10, d17, e20, e21, e22, d23, nm, seval] <;> rfl) | rfl
end Go.V
end
section
namespace Go.V
open Go Go.Proofs
def g_ref01_Before_l0 (x1_b : List Int) : List Int → Int → Option (LOut (Bool) (Unit))
 | [], c0_5 => some (.go ())
 | e0 :: p0, c0_5 => cond (decide (c0_5 < (List.length x1_b : Int))) (Option.bind (getI x1_b c0_5) (fun x1 => cond (e0 != x1) (some (.ret (decide (e0 < x1)))) (g_ref01_Before_l0 x1_b p0 (c0_5 + 1)))) (some (.go ()))
def g_ref01_Before (x0_a : List Int) (x1_b : List Int) : Option (Bool) := cond (lenOk x0_a) (lbind (g_ref01_Before_l0 x1_b x0_a 0) (fun r3 => some r3) (fun c2 => some (decide ((List.length x0_a : Int) < (List.length x1_b : Int)))) (fun _ _ => none)) none
theorem g_ref01_Before_ok (x0_a : List Int) (x1_b : List Int) (R : Bool) (h : g_ref01_Before x0_a x1_b = some R) : VPure Tryz.prog G0 35 [.sl (cellsL eI x0_a) (List.length x0_a) false, .sl (cellsL eI x1_b) (List.length x1_b) false] (.tree (.lit (.bool R))) := by
 refine VPure.runR mixed Tryz.call35 Tryz.func35 rfl (by simp [Tryz.ntmps35]; kernel_rfl) ?_
 obtain ⟨KF, h, kF, kN⟩ := fun_intro h
 simp only [g_ref01_Before] at h
 cases g5 : (lenOk x0_a)
 ·simp only [g5, hs] at h
  exact absurd h kN
 simp only [g5, hs] at h
 simp only [vz, tyf, g5, nm, seval]
 obtain ⟨K4, h, kR4, kG4, kB4, kN4⟩ := lbind_intro h kN
 obtain ⟨f4, hf4, h⟩ := call2 h
 obtain ⟨I4, hI4⟩ : ∃ I : Nat → St → Prop, I = (fun m st => ∃ (p4 : List Int) (c4_5 : Int), m = List.length p4 ∧ 0 ≤ c4_5 ∧ List.drop (Int.toNat c4_5) x0_a = p4 ∧ st.df = [] ∧ 2 ≤ st.nx ∧ st.tm 0 = .sl (cellsL eI x0_a) (List.length x0_a) false ∧ st.tm 1 = .sl (cellsL eI x1_b) (List.length x1_b) false ∧ st.tm 5 = .lit (.int .i64 c4_5) ∧ K4 (f4 p4 c4_5)) := ⟨_, rfl⟩
 refine loopK mixed (by kernel_rfl) I4 (List.length x0_a) (by rw [hI4]; refine ⟨x0_a, 0, rfl, Int.le_refl _, rfl, rfl, (show 2 ≤ 2 by omega), ?_, ?_, ?_, h⟩ <;> first | (simp only [ua, nm, seval] <;> rfl) | rfl) ?_
 rintro m ⟨tm, H, nx4, df⟩ hinv
 rw [hI4] at hinv
 obtain ⟨p4, c4_5, rfl, hi4, hp4, hdf, hn4, e6, e7, e8, h⟩ := hinv
 simp only at hdf hn4 e6 e7 e8
 have n9 := base_ne0 (m := 2) (b := nx4) (by omega)
 subst hdf hf4
 cases p4 with
 | nil =>
  have d10 : (decide (c4_5 < (List.length x0_a : Int))) = false := not_lt_of_drop hi4 hp4
  simp only [g_ref01_Before_l0, hs, reduceCtorEq] at h
  replace h := kG4 _ h
  try dsimp only at h
  try simp only [hs] at h
  try simp only [vz, tyf, g5, n9, e6, e7, e8, d10, nm, seval]
  obtain rfl := kF _ h
  exact opd_bool Tryz.results35 rfl
 | cons e4 p4 =>
  have d11 : (decide (c4_5 < (List.length x0_a : Int))) = true := lt_of_drop hi4 hp4
  have o13 := getI_of_drop hi4 hp4
  have w12 := wrap_next hi4 hp4 g5
  simp only [g_ref01_Before_l0, hs, reduceCtorEq] at h
  cases d14 : (decide (c4_5 < (List.length x1_b : Int)))
  ·simp only [d14, hs] at h
   replace h := kG4 _ h
   try dsimp only at h
   try simp only [hs] at h
   try simp only [vz, tyf, g5, n9, e6, e7, e8, d11, (ix23 o13), w12, d14, nm, seval]
   obtain rfl := kF _ h
   exact opd_bool Tryz.results35 rfl
  simp only [d14, hs] at h
  simp only [vz, tyf, g5, n9, e6, e7, e8, d11, (ix23 o13), w12, d14, nm, seval]
  refine cwp_drwQF (fun tm => tm 0 = .sl (cellsL eI x0_a) (List.length x0_a) false ∧ tm 1 = .sl (cellsL eI x1_b) (List.length x1_b) false ∧ tm 5 = .lit (.int .i64 c4_5) ∧ True) (by refine ⟨e6, e7, e8, trivial⟩ <;> first | (simp only [ua, n9, e6, e7, e8, d11, w12, d14, nm, seval] <;> rfl) | rfl) ?_
  rintro tm ⟨e15, e16, e17, _⟩
  rcases o19 : (getI x1_b c4_5) with _ | x18
  ·simp only [o19, hs] at h
   exact absurd h kN4
  simp only [o19, hs] at h
  cases d20 : (e4 != x18)
  ·simp only [d20, hs] at h
   simp only [vz, tyf, g5, n9, d11, (ix23 o13), w12, d14, e15, e16, e17, (ix23 o19), d20, nm, seval]
   exact ⟨List.length p4, Nat.lt_succ_self _, by rw [hI4]; refine ⟨p4, c4_5 + 1, rfl, Int.le_trans hi4 (Int.le_add_one (Int.le_refl _)), drop_next hi4 hp4, rfl, (show 2 ≤ nx4 + 22 by omega), e15, e16, ?_, h⟩ <;> first | (simp only [ua, n9, d11, w12, d14, e15, e16, e17, d20, nm, seval] <;> rfl) | rfl⟩
  simp only [d20, hs] at h
  simp only [vz, tyf, g5, n9, d11, (ix23 o13), w12, d14, e15, e16, e17, (ix23 o19), d20, nm, seval]
  refine cwp_drwQF (fun tm => tm 0 = .sl (cellsL eI x0_a) (List.length x0_a) false ∧ tm 1 = .sl (cellsL eI x1_b) (List.length x1_b) false ∧ tm 5 = .lit (.int .i64 c4_5) ∧ True) (by refine ⟨e15, e16, e17, trivial⟩ <;> first | (simp only [ua, n9, d11, w12, d14, e15, e16, e17, d20, nm, seval] <;> rfl) | rfl) ?_
  rintro tm ⟨e21, e22, e23, _⟩
  try simp only [vz, tyf, g5, n9, d11, (ix23 o13), w12, d14, (ix23 o19), d20, e21, e22, e23, nm, seval]
  replace h := kR4 _ h
  try dsimp only at h
  obtain rfl := kF _ h
  exact opd_bool Tryz.results35 rfl
end Go.V
end
