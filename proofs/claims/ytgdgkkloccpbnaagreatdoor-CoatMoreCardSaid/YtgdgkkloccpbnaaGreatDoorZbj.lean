/- Part of a proof: a logic of values by content, lifted functions, what follows. -/
import Derived.Test.YtgdgkkloccpbnaaGreatDoorZbf
import Derived.Test.YtgdgkkloccpbnaaGreatDoorZbi
set_option linter.all false
set_option maxRecDepth 4000
set_option maxHeartbeats 40000000
section
namespace Go.V
open Go Go.Proofs
def g_coat_summed_l1 (c1 : (List Int) × (List Int)) : Nat → Int → (List Int) → (List Int) → Option (LOut (Gcoatsums) ((List Int) × (List Int)))
 | 0, c1_33, c1_o0, c1_o1 => some (.go (c1_o0, c1_o1))
 | k1 + 1, c1_33, c1_o0, c1_o1 => cond (pfxOk (List.length c1.1) c1_33) (cond (le1000 (List.length c1.1 * 1)) (Option.bind (g_sum_Of (List.take (Int.toNat c1_33) c1.1)) (fun r4 => cond (roomOk 8 (List.length (c1_o0 ++ [r4]))) (cond (pfxOk (List.length c1.2) c1_33) (cond (le1000 (List.length c1.2 * 1)) (Option.bind (g_sum_Of (List.take (Int.toNat c1_33) c1.2)) (fun r5 => cond (roomOk 8 (List.length (c1_o1 ++ [r5]))) (g_coat_summed_l1 c1 k1 (c1_33 + 1) (c1_o0 ++ [r4]) (c1_o1 ++ [r5])) none)) none) none) none)) none) none
def g_coat_summed_l0  : List GSpan → Int → (List Int) → (List Int) → Option (LOut (Gcoatsums) ((List Int) × (List Int)))
 | [], c0_14, c0_4, c0_5 => some (.go (c0_4, c0_5))
 | e0 :: p0, c0_14, c0_4, c0_5 => cond (roomOk 8 (List.length (c0_4 ++ [e0.Low]))) (cond (roomOk 8 (List.length (c0_5 ++ [e0.High]))) (g_coat_summed_l0 p0 (c0_14 + 1) (c0_4 ++ [e0.Low]) (c0_5 ++ [e0.High])) none) none
def g_coat_summed (x0_s : GCoatSheet) : Option (Gcoatsums) := cond (lenOk x0_s.Dry) (lbind (g_coat_summed_l0 x0_s.Dry 0 ([] : List Int) ([] : List Int)) (fun r8 => some r8) (fun c1 => cond (neB c1.1) (cond (neB c1.2) (cond (boundOk (IntKind.i64.wrap ((List.length x0_s.Dry : Int) + 1))) (lbind (g_coat_summed_l1 c1 (Int.toNat ((IntKind.i64.wrap ((List.length x0_s.Dry : Int) + 1)) - 0)) 0 ([] : List Int) ([] : List Int)) (fun r7 => some r7) (fun c6 => cond (neB c6.1) (cond (neB c6.2) (some (Gcoatsums.mk x0_s c6.1 c6.2)) none) none) (fun _ _ => none)) none) none) none) (fun _ _ => none)) none
theorem g_coat_summed_ok (x0_s : GCoatSheet) (R : Gcoatsums) (h : g_coat_summed x0_s = some R) : VPure Tryz.prog G0 59 [.agg (cGCoatSheet x0_s)] (.tree (.agg (cGcoatsums R))) := by
 refine VPure.runR mixed Tryz.call59 Tryz.func59 rfl (by simp [Tryz.ntmps59]; kernel_rfl) ?_
 obtain ⟨KF, h, kF, kN⟩ := fun_intro h
 simp only [g_coat_summed] at h
 cases g10 : (lenOk x0_s.Dry)
 ·simp only [g10, hs] at h
  exact absurd h kN
 simp only [g10, hs] at h
 simp only [vz, tyf, g10, nm, seval]
 obtain ⟨K9, h, kR9, kG9, kB9, kN9⟩ := lbind_intro h kN
 obtain ⟨f9, hf9, h⟩ := call4 h
 obtain ⟨I9, hI9⟩ : ∃ I : Nat → St → Prop, I = (fun m st => ∃ (p9 : List GSpan) (c9_14 : Int) (c9_4 : List Int) (c9_5 : List Int) (y9_0 : VV) (y9_1 : VV), m = List.length p9 ∧ 0 ≤ c9_14 ∧ List.drop (Int.toNat c9_14) x0_s.Dry = p9 ∧ st.df = [] ∧ 12 ≤ st.nx ∧ st.H 0 = some (.cells (some 26) (cGCoatSheet x0_s)) ∧ st.H 1 = some (.cells (some 81) ([.lit (.slice none 0 0)] ++ [.lit (.slice none 0 0)] ++ [.lit (.slice none 0 0)] ++ [.lit (.slice none 0 0)] ++ [.lit (.slice none 0 0)])) ∧ st.H 4 = some (.cells (some 81) ((cGCoatSheet x0_s) ++ [.lit (.slice none 0 0)] ++ [.lit (.slice none 0 0)])) ∧ st.tm 1 = .ptr 0 0 ∧ st.tm 2 = .ptr 1 0 ∧ st.tm 3 = .ptr 4 0 ∧ st.tm 12 = .sl (cellsL cGSpan x0_s.Dry) (List.length x0_s.Dry) false ∧ st.tm 13 = .lit (.int .i64 (List.length x0_s.Dry : Int)) ∧ st.tm 4 = y9_0 ∧ st.tm 5 = y9_1 ∧ st.tm 14 = .lit (.int .i64 c9_14) ∧ ((∃ (β : Nat) (el : Option TypeId), y9_0 = .ref β 0 (List.length c9_4) 1 (List.length c9_4) ∧ β < st.nx ∧ β ≠ 0 ∧ β ≠ 1 ∧ β ≠ 4 ∧ st.H β = some (.cells el (cellsL eI c9_4))) ∨ (y9_0 = .lit (.slice none 0 0) ∧ c9_4 = [])) ∧ ((∃ (β : Nat) (el : Option TypeId), y9_1 = .ref β 0 (List.length c9_5) 1 (List.length c9_5) ∧ β < st.nx ∧ β ≠ 0 ∧ β ≠ 1 ∧ β ≠ 4 ∧ st.H β = some (.cells el (cellsL eI c9_5))) ∨ (y9_1 = .lit (.slice none 0 0) ∧ c9_5 = [])) ∧ NeR y9_0 y9_1 ∧ K9 (f9 p9 c9_14 c9_4 c9_5)) := ⟨_, rfl⟩
 refine loopK mixed (by kernel_rfl) I9 (List.length x0_s.Dry) (by rw [hI9]; refine ⟨x0_s.Dry, 0, ([] : List Int), ([] : List Int), .lit (.slice none 0 0), .lit (.slice none 0 0), rfl, Int.le_refl _, rfl, rfl, (show 12 ≤ 12 by omega), ?_, ?_, ?_, ?_, ?_, ?_, ?_, ?_, ?_, ?_, ?_, Or.inr ⟨rfl, rfl⟩, Or.inr ⟨rfl, rfl⟩, (by first | trivial | (show _ ≠ _; first | omega | (intro hh; simp only [reduceCtorEq] at hh))), h⟩ <;> first | (simp only [ua, nm, seval] <;> rfl) | rfl) ?_
 rintro m ⟨tm, H, nx9, df⟩ hinv
 rw [hI9] at hinv
 obtain ⟨p9, c9_14, c9_4, c9_5, y9_0, y9_1, rfl, hi9, hp9, hdf, hn9, H11, H12, H13, e14, e15, e16, e17, e18, e19, e20, e21, ow9_0, ow9_1, nr9_0_1, h⟩ := hinv
 simp only at hdf hn9 H11 H12 H13 e14 e15 e16 e17 e18 e19 e20 e21 ow9_0 ow9_1
 have n22 := base_ne0 (m := 12) (b := nx9) (by omega)
 subst hdf hf9
 rcases ow9_0 with ⟨b9_0, el9_0, rfl, lq24, lq25, lq26, lq27, H23⟩ | ⟨rfl, rfl⟩
 ·have q24 := own_lt lq24
  have q25 := ne_f lq25
  have q26 := ne_f lq26
  have q27 := ne_f lq27
  rcases ow9_1 with ⟨b9_1, el9_1, rfl, lq29, lq30, lq31, lq32, H28⟩ | ⟨rfl, rfl⟩
  ·have q29 := own_lt lq29
   have q30 := ne_f lq30
   have q31 := ne_f lq31
   have q32 := ne_f lq32
   have qnr9_0_1 := ne_f (show b9_0 ≠ b9_1 from nr9_0_1)
   cases p9 with
   | nil =>
    have d33 : (decide (c9_14 < (List.length x0_s.Dry : Int))) = false := not_lt_of_drop hi9 hp9
    simp only [g_coat_summed_l0, hs, reduceCtorEq] at h
    replace h := kG9 _ h
    try dsimp only at h
    try simp only [hs] at h
    cases g34 : (neB c9_4)
    ·simp only [g34, hs] at h
     exact absurd h kN
    simp only [g34, hs] at h
    cases g35 : (neB c9_5)
    ·simp only [g35, hs] at h
     exact absurd h kN
    simp only [g35, hs] at h
    cases g37 : (boundOk (IntKind.i64.wrap ((List.length x0_s.Dry : Int) + 1)))
    ·simp only [g37, hs] at h
     exact absurd h kN
    simp only [g37, hs] at h
    simp only [vz, tyf, g10, n22, e14, e15, e16, e17, e18, e19, e20, e21, H11, H12, H13, q24, H23, q25, q26, q27, q29, H28, q30, q31, q32, qnr9_0_1, d33, g34, g35, g37, nm, seval]
    obtain ⟨K36, h, kR36, kG36, kB36, kN36⟩ := lbind_intro h kN
    obtain ⟨f36, hf36, h⟩ := call4 h
    obtain ⟨I36, hI36⟩ : ∃ I : Nat → St → Prop, I = (fun m st => ∃ (p36 : Nat) (c36_33 : Int) (c36_o0 : List Int) (c36_o1 : List Int) (y36_0 : VV) (y36_1 : VV), p36 = m ∧ loOk c36_33 = true ∧ Int.toNat ((IntKind.i64.wrap ((List.length x0_s.Dry : Int) + 1)) - c36_33) = p36 ∧ st.df = [] ∧ nx9 + 6 ≤ st.nx ∧ st.H 1 = some (.cells (some 81) ([.lit (.slice none 0 0)] ++ [.lit (.slice none 0 0)] ++ [.lit (.slice none 0 0)] ++ [.lit (.slice none 0 0)] ++ [.lit (.slice none 0 0)])) ∧ st.H 4 = some (.cells (some 81) ((cGCoatSheet x0_s) ++ [y36_0] ++ [y36_1])) ∧ st.H b9_0 = some (.cells (el9_0) (cellsL eI c9_4)) ∧ st.H b9_1 = some (.cells (el9_1) (cellsL eI c9_5)) ∧ st.tm 2 = .ptr 1 0 ∧ st.tm 3 = .ptr 4 0 ∧ st.tm 4 = .ref b9_0 0 (List.length c9_4) 1 (List.length c9_4) ∧ st.tm 5 = .ref b9_1 0 (List.length c9_5) 1 (List.length c9_5) ∧ st.tm 32 = .lit (.int .i64 (IntKind.i64.wrap ((List.length x0_s.Dry : Int) + 1))) ∧ st.tm 33 = .lit (.int .i64 c36_33) ∧ ((∃ (β : Nat) (el : Option TypeId), y36_0 = .ref β 0 (List.length c36_o0) 1 (List.length c36_o0) ∧ β < st.nx ∧ β ≠ 1 ∧ β ≠ 4 ∧ β ≠ b9_0 ∧ β ≠ b9_1 ∧ st.H β = some (.cells el (cellsL eI c36_o0))) ∨ (y36_0 = .lit (.slice none 0 0) ∧ c36_o0 = [])) ∧ ((∃ (β : Nat) (el : Option TypeId), y36_1 = .ref β 0 (List.length c36_o1) 1 (List.length c36_o1) ∧ β < st.nx ∧ β ≠ 1 ∧ β ≠ 4 ∧ β ≠ b9_0 ∧ β ≠ b9_1 ∧ st.H β = some (.cells el (cellsL eI c36_o1))) ∨ (y36_1 = .lit (.slice none 0 0) ∧ c36_o1 = [])) ∧ NeR y36_0 y36_1 ∧ K36 (f36 p36 c36_33 c36_o0 c36_o1)) := ⟨_, rfl⟩
    refine loopK mixed (by kernel_rfl) I36 (Int.toNat ((IntKind.i64.wrap ((List.length x0_s.Dry : Int) + 1)) - 0)) (by rw [hI36]; refine ⟨Int.toNat ((IntKind.i64.wrap ((List.length x0_s.Dry : Int) + 1)) - 0), 0, ([] : List Int), ([] : List Int), .lit (.slice none 0 0), .lit (.slice none 0 0), rfl, (by rfl), rfl, rfl, (show nx9 + 6 ≤ nx9 + 6 by omega), ?_, ?_, ?_, ?_, e15, e16, e19, e20, ?_, ?_, Or.inr ⟨rfl, rfl⟩, Or.inr ⟨rfl, rfl⟩, (by first | trivial | (show _ ≠ _; first | omega | (intro hh; simp only [n22, q24, q25, q26, q27, q29, q30, q31, q32, qnr9_0_1, reduceCtorEq] at hh))), h⟩ <;> first | (simp only [ua, n22, e14, e15, e16, e17, e18, e19, e20, e21, H11, H12, H13, q24, H23, q25, q26, q27, q29, H28, q30, q31, q32, d33, nm, seval] <;> rfl) | rfl) ?_
    rintro m ⟨tm, H, nx36, df⟩ hinv
    rw [hI36] at hinv
    obtain ⟨p36, c36_33, c36_o0, c36_o1, y36_0, y36_1, rfl, hi36, hp36, hdf, hn36, H38, H39, H40, H41, e42, e43, e44, e45, e46, e47, ow36_0, ow36_1, nr36_0_1, h⟩ := hinv
    simp only at hdf hn36 H38 H39 H40 H41 e42 e43 e44 e45 e46 e47 ow36_0 ow36_1
    have n48 := base_ne0 (m := 12) (b := nx36) (by omega)
    have n49 := base_ne (a := nx9) (m := 6) (b := nx36) (by omega)
    have n50 := own_lt (β := b9_0) (nx := nx36) (by omega)
    have n51 := own_lt (β := b9_1) (nx := nx36) (by omega)
    subst hdf hf36
    rcases ow36_0 with ⟨b36_0, el36_0, rfl, lq53, lq54, lq55, lq56, lq57, H52⟩ | ⟨rfl, rfl⟩
    ·have q53 := own_lt lq53
     have q54 := ne_f lq54
     have q55 := ne_f lq55
     have q56 := ne_f lq56
     have q57 := ne_f lq57
     rcases ow36_1 with ⟨b36_1, el36_1, rfl, lq59, lq60, lq61, lq62, lq63, H58⟩ | ⟨rfl, rfl⟩
     ·have q59 := own_lt lq59
      have q60 := ne_f lq60
      have q61 := ne_f lq61
      have q62 := ne_f lq62
      have q63 := ne_f lq63
      have qnr36_0_1 := ne_f (show b36_0 ≠ b36_1 from nr36_0_1)
      cases p36 with
      | zero =>
       have d64 : (decide (c36_33 < (IntKind.i64.wrap ((List.length x0_s.Dry : Int) + 1)))) = false := cnt_not_lt hp36
       simp only [g_coat_summed_l1, hs, reduceCtorEq] at h
       replace h := kG36 _ h
       try dsimp only at h
       try simp only [hs] at h
       cases g65 : (neB c36_o0)
       ·simp only [g65, hs] at h
        exact absurd h kN
       simp only [g65, hs] at h
       cases g66 : (neB c36_o1)
       ·simp only [g66, hs] at h
        exact absurd h kN
       simp only [g66, hs] at h
       try simp only [vz, tyf, g10, n22, q24, q25, q26, q27, q29, q30, q31, q32, qnr9_0_1, d33, g34, g35, g37, n48, n49, n50, n51, e42, e43, e44, e45, e46, e47, H38, H39, H40, H41, q53, H52, q54, q55, q56, q57, q59, H58, q60, q61, q62, q63, qnr36_0_1, d64, g65, g66, nm, seval]
       refine opd_ret (x := (.agg ((cGCoatSheet x0_s) ++ [.ref b36_0 0 (List.length c36_o0) 1 (List.length c36_o0)] ++ [.ref b36_1 0 (List.length c36_o1) 1 (List.length c36_o1)]))) (by first | (simp only [Tryz.results59, resV, resL, resV1, tgt_ptr, tgt_tp, uw, cr, tyf, g10, n22, q24, q25, q26, q27, q29, q30, q31, q32, qnr9_0_1, d33, g34, g35, g37, n48, n49, n50, n51, e42, e43, e44, e45, e46, e47, H38, H39, H40, H41, q53, H52, q54, q55, q56, q57, q59, H58, q60, q61, q62, q63, qnr36_0_1, d64, g65, g66, nm, seval] <;> rfl) | rfl) ?_
       obtain rfl := kF _ h
       refine rr_tree ?_ ?_
       ·simp only [tre, tytre, Bool.and_self]
       ·first | (simp only [outV, uw, showV_ref, cr, tyf, nrm, tynrm, g10, n22, q24, q25, q26, q27, q29, q30, q31, q32, qnr9_0_1, d33, g34, g35, g37, n48, n49, n50, n51, e42, e43, e44, e45, e46, e47, H38, H39, H40, H41, q53, H52, q54, q55, q56, q57, q59, H58, q60, q61, q62, q63, qnr36_0_1, d64, g65, g66, nm, seval] <;> rfl) | rfl
      | succ p36 =>
       have d67 : (decide (c36_33 < (IntKind.i64.wrap ((List.length x0_s.Dry : Int) + 1)))) = true := cnt_lt hp36
       have w68 := cnt_wrap hi36 hp36 g37
       simp only [g_coat_summed_l1, hs, reduceCtorEq] at h
       simp only [vz, tyf, g10, n22, q24, q25, q26, q27, q29, q30, q31, q32, qnr9_0_1, d33, g34, g35, g37, n48, n49, n50, n51, e42, e43, e44, e45, e46, e47, H38, H39, H40, H41, q53, H52, q54, q55, q56, q57, q59, H58, q60, q61, q62, q63, qnr36_0_1, d67, w68, nm, seval]
       refine cwp_drawTF (fun tm => tm 2 = .ptr 1 0 ∧ tm 3 = .ptr 4 0 ∧ tm 4 = .ref b9_0 0 (List.length c9_4) 1 (List.length c9_4) ∧ tm 5 = .ref b9_1 0 (List.length c9_5) 1 (List.length c9_5) ∧ tm 8 = .lit (.int .i64 c36_33) ∧ tm 32 = .lit (.int .i64 (IntKind.i64.wrap ((List.length x0_s.Dry : Int) + 1))) ∧ tm 33 = .lit (.int .i64 c36_33) ∧ True) (by refine ⟨e42, e43, e44, e45, ?_, e46, e47, trivial⟩ <;> first | (simp only [ua, n22, q24, q25, q26, q27, q29, q30, q31, q32, d33, n48, n49, n50, n51, e42, e43, e44, e45, e46, e47, H38, H39, H40, H41, q53, H52, q54, q55, q56, q57, q59, H58, q60, q61, q62, q63, d67, w68, nm, seval] <;> rfl) | rfl) ?_
       rintro tm ⟨e69, e70, e71, e72, e73, e74, e75, _⟩
       have b76 := And.intro g10 (And.intro n22 (And.intro q24 (And.intro q25 (And.intro q26 (And.intro q27 (And.intro q29 (And.intro q30 (And.intro q31 (And.intro q32 (And.intro qnr9_0_1 (And.intro d33 (And.intro g34 (And.intro g35 (And.intro g37 (And.intro n48 (And.intro n49 (And.intro n50 (And.intro n51 (And.intro H38 (And.intro H39 (And.intro H40 (And.intro H41 (And.intro q53 (And.intro H52 (And.intro q54 (And.intro q55 (And.intro q56 (And.intro q57 (And.intro q59 (And.intro H58 (And.intro q60 (And.intro q61 (And.intro q62 (And.intro q63 (And.intro qnr36_0_1 (And.intro d67 w68))))))))))))))))))))))))))))))))))))
       cases g77 : (pfxOk (List.length c9_4) c36_33)
       ·simp only [g77, hs] at h
        exact absurd h kN36
       simp only [g77, hs] at h
       try simp only [vz, tyf, b76, e69, e70, e71, e72, e73, e74, e75, g77, nm, seval]
       refine k_slP (w := 1) (enc := eI) (xs := c9_4) (el := el9_0) (kd := .i64) Tryz.underlying23 (by kernel_rfl) (by first | (simp only [ev_tmp, ev_func, ev_int, upd_apply, b76, e69, e70, e71, e72, e73, e74, e75, g77, nm, seval] <;> rfl) | rfl) (by first | rfl | assumption | (simp only [updH_apply, without_apply, et23, b76, nm, seval] <;> rfl) | (simp only [updH_apply, without_apply, cellsL_cons, cellsL_nil, mV_app, mV_app0, tyf, b76, e69, e70, e71, e72, e73, e74, e75, g77, nm, seval]; done)) (by first | (simp only [ev_tmp, ev_func, ev_int, upd_apply, b76, e69, e70, e71, e72, e73, e74, e75, g77, nm, seval] <;> rfl) | rfl) g77 ?_
       have w78 := pfx_take (w := 1) (enc := eI) (fun _ => rfl) g77
       cases g79 : (le1000 (List.length c9_4 * 1))
       ·simp only [g79, hs] at h
        exact absurd h kN36
       simp only [g79, hs] at h
       rcases o81 : (g_sum_Of (List.take (Int.toNat c36_33) c9_4)) with _ | r80
       ·simp only [o81, hs] at h
        exact absurd h kN36
       simp only [o81, hs] at h
       simp only [vz, tyf, b76, e69, e70, e71, e72, e73, e74, e75, g77, w78, g79, nm, seval]
       refine dkseenP (w := 1) (enc := eI) (xs := c9_4) (el := el9_0) ⟨eI_ok.tree, eI_ok.norm⟩ (fun _ => rfl) g77 (le1000_of g79) (by simp only [updH_apply, without_apply, et23, b76, nm, seval] <;> rfl) (g_sum_Of_ok _ _ o81) (by first | rfl | simp only [VV.flat, flatL, Bool.and_self]) ?_
       refine fin_cut (fun tm => tm 2 = .ptr 1 0 ∧ tm 3 = .ptr 4 0 ∧ tm 4 = .ref b9_0 0 (List.length c9_4) 1 (List.length c9_4) ∧ tm 5 = .ref b9_1 0 (List.length c9_5) 1 (List.length c9_5) ∧ tm 8 = .lit (.int .i64 c36_33) ∧ tm 32 = .lit (.int .i64 (IntKind.i64.wrap ((List.length x0_s.Dry : Int) + 1))) ∧ tm 33 = .lit (.int .i64 c36_33) ∧ tm 37 = .ref b36_0 0 (List.length c36_o0) 1 (List.length c36_o0) ∧ tm 41 = .lit (.int .i64 r80) ∧ True) (by refine ⟨e69, e70, e71, e72, e73, e74, e75, ?_, ?_, trivial⟩ <;> first | (simp only [ua, b76, e69, e70, e71, e72, e73, e74, e75, w78, nm, seval] <;> rfl) | rfl) ?_
       rintro tm ⟨e82, e83, e84, e85, e86, e87, e88, e89, e90, _⟩
       cases g91 : (roomOk 8 (List.length (c36_o0 ++ [r80])))
       ·simp only [g91, hs] at h
        exact absurd h kN36
       simp only [g91, hs] at h
       simp only [vz, tyf, b76, g77, w78, g79, e82, e83, e84, e85, e86, e87, e88, e89, e90, g91, nm, seval]
       refine k_app (w := 1) (enc := eI) (xs := c36_o0) (ys := ([r80])) (el := el36_0) (el2 := (some 3)) (fun _ => rfl) lf23 ao23 Tryz.underlying23 (by first | rfl | assumption | (simp only [updH_apply, without_apply, et23, b76, nm, seval] <;> rfl) | (simp only [updH_apply, without_apply, cellsL_cons, cellsL_nil, mV_app, mV_app0, tyf, b76, g77, w78, g79, e82, e83, e84, e85, e86, e87, e88, e89, e90, g91, nm, seval]; done)) (by first | rfl | assumption | (simp only [updH_apply, without_apply, et23, b76, nm, seval] <;> rfl) | (simp only [updH_apply, without_apply, cellsL_cons, cellsL_nil, mV_app, mV_app0, tyf, b76, g77, w78, g79, e82, e83, e84, e85, e86, e87, e88, e89, e90, g91, nm, seval]; done)) (Nat.zero_lt_succ _) g91 ?_
       simp only [vz, tyf, b76, g77, w78, g79, e82, e83, e84, e85, e86, e87, e88, e89, e90, g91, nm, seval]
       refine drawK_nil ⟨?_, ?_⟩
       ·simp only [traceR_cons, traceR_nil, hitK_quiet, hitK_nil, and_true, true_and]
        repeat' (first | exact trivial | refine And.intro ?_ ?_ | rw [hitK_quiet] | rw [hitK_cons] | exact Or.inl (by decide +kernel) | exact Or.inl (by dsimp only; decide +kernel) | (refine Or.inr ⟨?_, ?_⟩ <;> simp; done) | (refine Or.inr ⟨?_, ?_⟩ <;> simp <;> omega) | (refine Or.inr ⟨?_, ?_⟩ <;> simp [VEff.wr] <;> omega))
       simp only [vz, tyf, b76, g77, w78, g79, e82, e83, e84, e85, e86, e87, e88, e89, e90, g91, nm, seval]
       refine cwp_drawTF (fun tm => tm 2 = .ptr 1 0 ∧ tm 3 = .ptr 4 0 ∧ tm 4 = .ref b9_0 0 (List.length c9_4) 1 (List.length c9_4) ∧ tm 5 = .ref b9_1 0 (List.length c9_5) 1 (List.length c9_5) ∧ tm 8 = .lit (.int .i64 c36_33) ∧ tm 32 = .lit (.int .i64 (IntKind.i64.wrap ((List.length x0_s.Dry : Int) + 1))) ∧ tm 33 = .lit (.int .i64 c36_33) ∧ True) (by refine ⟨e82, e83, e84, e85, e86, e87, e88, trivial⟩ <;> first | (simp only [ua, b76, w78, e82, e83, e84, e85, e86, e87, e88, e89, e90, nm, seval] <;> rfl) | rfl) ?_
       rintro tm ⟨e92, e93, e94, e95, e96, e97, e98, _⟩
       cases g99 : (pfxOk (List.length c9_5) c36_33)
       ·simp only [g99, hs] at h
        exact absurd h kN36
       simp only [g99, hs] at h
       try simp only [vz, tyf, b76, g77, w78, g79, g91, e92, e93, e94, e95, e96, e97, e98, g99, nm, seval]
       refine k_slP (w := 1) (enc := eI) (xs := c9_5) (el := el9_1) (kd := .i64) Tryz.underlying23 (by kernel_rfl) (by first | (simp only [ev_tmp, ev_func, ev_int, upd_apply, b76, g77, w78, g79, g91, e92, e93, e94, e95, e96, e97, e98, g99, nm, seval] <;> rfl) | rfl) (by first | rfl | assumption | (simp only [updH_apply, without_apply, et23, b76, nm, seval] <;> rfl) | (simp only [updH_apply, without_apply, cellsL_cons, cellsL_nil, mV_app, mV_app0, tyf, b76, g77, w78, g79, g91, e92, e93, e94, e95, e96, e97, e98, g99, nm, seval]; done)) (by first | (simp only [ev_tmp, ev_func, ev_int, upd_apply, b76, g77, w78, g79, g91, e92, e93, e94, e95, e96, e97, e98, g99, nm, seval] <;> rfl) | rfl) g99 ?_
       have w100 := pfx_take (w := 1) (enc := eI) (fun _ => rfl) g99
       cases g101 : (le1000 (List.length c9_5 * 1))
       ·simp only [g101, hs] at h
        exact absurd h kN36
       simp only [g101, hs] at h
       rcases o103 : (g_sum_Of (List.take (Int.toNat c36_33) c9_5)) with _ | r102
       ·simp only [o103, hs] at h
        exact absurd h kN36
       simp only [o103, hs] at h
       simp only [vz, tyf, b76, g77, w78, g79, g91, e92, e93, e94, e95, e96, e97, e98, g99, w100, g101, nm, seval]
       refine dkseenP (w := 1) (enc := eI) (xs := c9_5) (el := el9_1) ⟨eI_ok.tree, eI_ok.norm⟩ (fun _ => rfl) g99 (le1000_of g101) (by simp only [updH_apply, without_apply, et23, b76, nm, seval] <;> rfl) (g_sum_Of_ok _ _ o103) (by first | rfl | simp only [VV.flat, flatL, Bool.and_self]) ?_
       refine fin_cut (fun tm => tm 2 = .ptr 1 0 ∧ tm 3 = .ptr 4 0 ∧ tm 4 = .ref b9_0 0 (List.length c9_4) 1 (List.length c9_4) ∧ tm 5 = .ref b9_1 0 (List.length c9_5) 1 (List.length c9_5) ∧ tm 32 = .lit (.int .i64 (IntKind.i64.wrap ((List.length x0_s.Dry : Int) + 1))) ∧ tm 33 = .lit (.int .i64 c36_33) ∧ tm 46 = .ref b36_1 0 (List.length c36_o1) 1 (List.length c36_o1) ∧ tm 50 = .lit (.int .i64 r102) ∧ True) (by refine ⟨e92, e93, e94, e95, e97, e98, ?_, ?_, trivial⟩ <;> first | (simp only [ua, b76, w78, e92, e93, e94, e95, e96, e97, e98, w100, nm, seval] <;> rfl) | rfl) ?_
       rintro tm ⟨e104, e105, e106, e107, e108, e109, e110, e111, _⟩
       have b112 := And.intro b76 (And.intro g77 (And.intro w78 (And.intro g79 (And.intro g91 (And.intro g99 (And.intro w100 g101))))))
       cases g113 : (roomOk 8 (List.length (c36_o1 ++ [r102])))
       ·simp only [g113, hs] at h
        exact absurd h kN36
       simp only [g113, hs] at h
       simp only [vz, tyf, b112, e104, e105, e106, e107, e108, e109, e110, e111, g113, nm, seval]
       refine k_app (w := 1) (enc := eI) (xs := c36_o1) (ys := ([r102])) (el := el36_1) (el2 := (some 3)) (fun _ => rfl) lf23 ao23 Tryz.underlying23 (by first | rfl | assumption | (simp only [updH_apply, without_apply, et23, b112, nm, seval] <;> rfl) | (simp only [updH_apply, without_apply, cellsL_cons, cellsL_nil, mV_app, mV_app0, tyf, b112, e104, e105, e106, e107, e108, e109, e110, e111, g113, nm, seval]; done)) (by first | rfl | assumption | (simp only [updH_apply, without_apply, et23, b112, nm, seval] <;> rfl) | (simp only [updH_apply, without_apply, cellsL_cons, cellsL_nil, mV_app, mV_app0, tyf, b112, e104, e105, e106, e107, e108, e109, e110, e111, g113, nm, seval]; done)) (Nat.zero_lt_succ _) g113 ?_
       simp only [vz, tyf, b112, e104, e105, e106, e107, e108, e109, e110, e111, g113, nm, seval]
       refine drawK_nil ⟨?_, ?_⟩
       ·simp only [traceR_cons, traceR_nil, hitK_quiet, hitK_nil, and_true, true_and]
        repeat' (first | exact trivial | refine And.intro ?_ ?_ | rw [hitK_quiet] | rw [hitK_cons] | exact Or.inl (by decide +kernel) | exact Or.inl (by dsimp only; decide +kernel) | (refine Or.inr ⟨?_, ?_⟩ <;> simp; done) | (refine Or.inr ⟨?_, ?_⟩ <;> simp <;> omega) | (refine Or.inr ⟨?_, ?_⟩ <;> simp [VEff.wr] <;> omega))
       simp only [vz, tyf, b112, e104, e105, e106, e107, e108, e109, e110, e111, g113, nm, seval]
       exact ⟨p36, Nat.lt_succ_self _, by rw [hI36]; refine ⟨p36, c36_33 + 1, (c36_o0 ++ [r80]), (c36_o1 ++ [r102]), .ref (nx36 + 10) 0 (List.length (c36_o0 ++ [r80])) 1 (List.length (c36_o0 ++ [r80])), .ref (nx36 + 20) 0 (List.length (c36_o1 ++ [r102])) 1 (List.length (c36_o1 ++ [r102])), rfl, cnt_lo hi36, cnt_next hp36, rfl, (show nx9 + 6 ≤ nx36 + 25 by omega), ?_, ?_, ?_, ?_, e104, e105, e106, e107, e108, ?_, Or.inl ⟨nx36 + 10, (sameEl el36_0 3), rfl, (by first | omega | (simp only [nm, seval]; omega)), (by first | omega | (intro hh; simp only [b112, reduceCtorEq] at hh)), (by first | omega | (intro hh; simp only [b112, reduceCtorEq] at hh)), (by first | omega | (intro hh; simp only [b112, reduceCtorEq] at hh)), (by first | omega | (intro hh; simp only [b112, reduceCtorEq] at hh)), ?_⟩, Or.inl ⟨nx36 + 20, (sameEl el36_1 3), rfl, (by first | omega | (simp only [nm, seval]; omega)), (by first | omega | (intro hh; simp only [b112, reduceCtorEq] at hh)), (by first | omega | (intro hh; simp only [b112, reduceCtorEq] at hh)), (by first | omega | (intro hh; simp only [b112, reduceCtorEq] at hh)), (by first | omega | (intro hh; simp only [b112, reduceCtorEq] at hh)), ?_⟩, (by first | trivial | (show _ ≠ _; first | omega | (intro hh; simp only [b112, reduceCtorEq] at hh))), h⟩ <;> first | (simp only [ua, b112, e104, e105, e106, e107, e108, e109, e110, e111, nm, seval] <;> rfl) | rfl⟩
     ·cases p36 with
      | zero =>
       have d114 : (decide (c36_33 < (IntKind.i64.wrap ((List.length x0_s.Dry : Int) + 1)))) = false := cnt_not_lt hp36
       simp only [g_coat_summed_l1, hs, reduceCtorEq] at h
       replace h := kG36 _ h
       try dsimp only at h
       try simp only [hs] at h
       cases g115 : (neB c36_o0)
       ·simp only [g115, hs] at h
        exact absurd h kN
       simp only [g115, hs] at h
       simp only [neB_nil, hs] at h
       exact absurd h kN
      | succ p36 =>
       have d116 : (decide (c36_33 < (IntKind.i64.wrap ((List.length x0_s.Dry : Int) + 1)))) = true := cnt_lt hp36
       have w117 := cnt_wrap hi36 hp36 g37
       simp only [g_coat_summed_l1, hs, reduceCtorEq] at h
       simp only [vz, tyf, g10, n22, q24, q25, q26, q27, q29, q30, q31, q32, qnr9_0_1, d33, g34, g35, g37, n48, n49, n50, n51, e42, e43, e44, e45, e46, e47, H38, H39, H40, H41, q53, H52, q54, q55, q56, q57, d116, w117, nm, seval]
       refine cwp_drawTF (fun tm => tm 2 = .ptr 1 0 ∧ tm 3 = .ptr 4 0 ∧ tm 4 = .ref b9_0 0 (List.length c9_4) 1 (List.length c9_4) ∧ tm 5 = .ref b9_1 0 (List.length c9_5) 1 (List.length c9_5) ∧ tm 8 = .lit (.int .i64 c36_33) ∧ tm 32 = .lit (.int .i64 (IntKind.i64.wrap ((List.length x0_s.Dry : Int) + 1))) ∧ tm 33 = .lit (.int .i64 c36_33) ∧ True) (by refine ⟨e42, e43, e44, e45, ?_, e46, e47, trivial⟩ <;> first | (simp only [ua, n22, q24, q25, q26, q27, q29, q30, q31, q32, d33, n48, n49, n50, n51, e42, e43, e44, e45, e46, e47, H38, H39, H40, H41, q53, H52, q54, q55, q56, q57, d116, w117, nm, seval] <;> rfl) | rfl) ?_
       rintro tm ⟨e118, e119, e120, e121, e122, e123, e124, _⟩
       have b125 := And.intro g10 (And.intro n22 (And.intro q24 (And.intro q25 (And.intro q26 (And.intro q27 (And.intro q29 (And.intro q30 (And.intro q31 (And.intro q32 (And.intro qnr9_0_1 (And.intro d33 (And.intro g34 (And.intro g35 (And.intro g37 (And.intro n48 (And.intro n49 (And.intro n50 (And.intro n51 (And.intro H38 (And.intro H39 (And.intro H40 (And.intro H41 (And.intro q53 (And.intro H52 (And.intro q54 (And.intro q55 (And.intro q56 (And.intro q57 (And.intro d116 w117)))))))))))))))))))))))))))))
       cases g126 : (pfxOk (List.length c9_4) c36_33)
       ·simp only [g126, hs] at h
        exact absurd h kN36
       simp only [g126, hs] at h
       try simp only [vz, tyf, b125, e118, e119, e120, e121, e122, e123, e124, g126, nm, seval]
       refine k_slP (w := 1) (enc := eI) (xs := c9_4) (el := el9_0) (kd := .i64) Tryz.underlying23 (by kernel_rfl) (by first | (simp only [ev_tmp, ev_func, ev_int, upd_apply, b125, e118, e119, e120, e121, e122, e123, e124, g126, nm, seval] <;> rfl) | rfl) (by first | rfl | assumption | (simp only [updH_apply, without_apply, et23, b125, nm, seval] <;> rfl) | (simp only [updH_apply, without_apply, cellsL_cons, cellsL_nil, mV_app, mV_app0, tyf, b125, e118, e119, e120, e121, e122, e123, e124, g126, nm, seval]; done)) (by first | (simp only [ev_tmp, ev_func, ev_int, upd_apply, b125, e118, e119, e120, e121, e122, e123, e124, g126, nm, seval] <;> rfl) | rfl) g126 ?_
       have w127 := pfx_take (w := 1) (enc := eI) (fun _ => rfl) g126
       cases g128 : (le1000 (List.length c9_4 * 1))
       ·simp only [g128, hs] at h
        exact absurd h kN36
       simp only [g128, hs] at h
       rcases o130 : (g_sum_Of (List.take (Int.toNat c36_33) c9_4)) with _ | r129
       ·simp only [o130, hs] at h
        exact absurd h kN36
       simp only [o130, hs] at h
       simp only [vz, tyf, b125, e118, e119, e120, e121, e122, e123, e124, g126, w127, g128, nm, seval]
       refine dkseenP (w := 1) (enc := eI) (xs := c9_4) (el := el9_0) ⟨eI_ok.tree, eI_ok.norm⟩ (fun _ => rfl) g126 (le1000_of g128) (by simp only [updH_apply, without_apply, et23, b125, nm, seval] <;> rfl) (g_sum_Of_ok _ _ o130) (by first | rfl | simp only [VV.flat, flatL, Bool.and_self]) ?_
       refine fin_cut (fun tm => tm 2 = .ptr 1 0 ∧ tm 3 = .ptr 4 0 ∧ tm 4 = .ref b9_0 0 (List.length c9_4) 1 (List.length c9_4) ∧ tm 5 = .ref b9_1 0 (List.length c9_5) 1 (List.length c9_5) ∧ tm 8 = .lit (.int .i64 c36_33) ∧ tm 32 = .lit (.int .i64 (IntKind.i64.wrap ((List.length x0_s.Dry : Int) + 1))) ∧ tm 33 = .lit (.int .i64 c36_33) ∧ tm 37 = .ref b36_0 0 (List.length c36_o0) 1 (List.length c36_o0) ∧ tm 41 = .lit (.int .i64 r129) ∧ True) (by refine ⟨e118, e119, e120, e121, e122, e123, e124, ?_, ?_, trivial⟩ <;> first | (simp only [ua, b125, e118, e119, e120, e121, e122, e123, e124, w127, nm, seval] <;> rfl) | rfl) ?_
       rintro tm ⟨e131, e132, e133, e134, e135, e136, e137, e138, e139, _⟩
       cases g140 : (roomOk 8 (List.length (c36_o0 ++ [r129])))
       ·simp only [g140, hs] at h
        exact absurd h kN36
       simp only [g140, hs] at h
       simp only [vz, tyf, b125, g126, w127, g128, e131, e132, e133, e134, e135, e136, e137, e138, e139, g140, nm, seval]
       refine k_app (w := 1) (enc := eI) (xs := c36_o0) (ys := ([r129])) (el := el36_0) (el2 := (some 3)) (fun _ => rfl) lf23 ao23 Tryz.underlying23 (by first | rfl | assumption | (simp only [updH_apply, without_apply, et23, b125, nm, seval] <;> rfl) | (simp only [updH_apply, without_apply, cellsL_cons, cellsL_nil, mV_app, mV_app0, tyf, b125, g126, w127, g128, e131, e132, e133, e134, e135, e136, e137, e138, e139, g140, nm, seval]; done)) (by first | rfl | assumption | (simp only [updH_apply, without_apply, et23, b125, nm, seval] <;> rfl) | (simp only [updH_apply, without_apply, cellsL_cons, cellsL_nil, mV_app, mV_app0, tyf, b125, g126, w127, g128, e131, e132, e133, e134, e135, e136, e137, e138, e139, g140, nm, seval]; done)) (Nat.zero_lt_succ _) g140 ?_
       simp only [vz, tyf, b125, g126, w127, g128, e131, e132, e133, e134, e135, e136, e137, e138, e139, g140, nm, seval]
       refine drawK_nil ⟨?_, ?_⟩
       ·simp only [traceR_cons, traceR_nil, hitK_quiet, hitK_nil, and_true, true_and]
        repeat' (first | exact trivial | refine And.intro ?_ ?_ | rw [hitK_quiet] | rw [hitK_cons] | exact Or.inl (by decide +kernel) | exact Or.inl (by dsimp only; decide +kernel) | (refine Or.inr ⟨?_, ?_⟩ <;> simp; done) | (refine Or.inr ⟨?_, ?_⟩ <;> simp <;> omega) | (refine Or.inr ⟨?_, ?_⟩ <;> simp [VEff.wr] <;> omega))
       simp only [vz, tyf, b125, g126, w127, g128, e131, e132, e133, e134, e135, e136, e137, e138, e139, g140, nm, seval]
       refine cwp_drawTF (fun tm => tm 2 = .ptr 1 0 ∧ tm 3 = .ptr 4 0 ∧ tm 4 = .ref b9_0 0 (List.length c9_4) 1 (List.length c9_4) ∧ tm 5 = .ref b9_1 0 (List.length c9_5) 1 (List.length c9_5) ∧ tm 8 = .lit (.int .i64 c36_33) ∧ tm 32 = .lit (.int .i64 (IntKind.i64.wrap ((List.length x0_s.Dry : Int) + 1))) ∧ tm 33 = .lit (.int .i64 c36_33) ∧ True) (by refine ⟨e131, e132, e133, e134, e135, e136, e137, trivial⟩ <;> first | (simp only [ua, b125, w127, e131, e132, e133, e134, e135, e136, e137, e138, e139, nm, seval] <;> rfl) | rfl) ?_
       rintro tm ⟨e141, e142, e143, e144, e145, e146, e147, _⟩
       cases g148 : (pfxOk (List.length c9_5) c36_33)
       ·simp only [g148, hs] at h
        exact absurd h kN36
       simp only [g148, hs] at h
       try simp only [vz, tyf, b125, g126, w127, g128, g140, e141, e142, e143, e144, e145, e146, e147, g148, nm, seval]
       refine k_slP (w := 1) (enc := eI) (xs := c9_5) (el := el9_1) (kd := .i64) Tryz.underlying23 (by kernel_rfl) (by first | (simp only [ev_tmp, ev_func, ev_int, upd_apply, b125, g126, w127, g128, g140, e141, e142, e143, e144, e145, e146, e147, g148, nm, seval] <;> rfl) | rfl) (by first | rfl | assumption | (simp only [updH_apply, without_apply, et23, b125, nm, seval] <;> rfl) | (simp only [updH_apply, without_apply, cellsL_cons, cellsL_nil, mV_app, mV_app0, tyf, b125, g126, w127, g128, g140, e141, e142, e143, e144, e145, e146, e147, g148, nm, seval]; done)) (by first | (simp only [ev_tmp, ev_func, ev_int, upd_apply, b125, g126, w127, g128, g140, e141, e142, e143, e144, e145, e146, e147, g148, nm, seval] <;> rfl) | rfl) g148 ?_
       have w149 := pfx_take (w := 1) (enc := eI) (fun _ => rfl) g148
       cases g150 : (le1000 (List.length c9_5 * 1))
       ·simp only [g150, hs] at h
        exact absurd h kN36
       simp only [g150, hs] at h
       rcases o152 : (g_sum_Of (List.take (Int.toNat c36_33) c9_5)) with _ | r151
       ·simp only [o152, hs] at h
        exact absurd h kN36
       simp only [o152, hs] at h
       simp only [vz, tyf, b125, g126, w127, g128, g140, e141, e142, e143, e144, e145, e146, e147, g148, w149, g150, nm, seval]
       refine dkseenP (w := 1) (enc := eI) (xs := c9_5) (el := el9_1) ⟨eI_ok.tree, eI_ok.norm⟩ (fun _ => rfl) g148 (le1000_of g150) (by simp only [updH_apply, without_apply, et23, b125, nm, seval] <;> rfl) (g_sum_Of_ok _ _ o152) (by first | rfl | simp only [VV.flat, flatL, Bool.and_self]) ?_
       refine fin_cut (fun tm => tm 2 = .ptr 1 0 ∧ tm 3 = .ptr 4 0 ∧ tm 4 = .ref b9_0 0 (List.length c9_4) 1 (List.length c9_4) ∧ tm 5 = .ref b9_1 0 (List.length c9_5) 1 (List.length c9_5) ∧ tm 32 = .lit (.int .i64 (IntKind.i64.wrap ((List.length x0_s.Dry : Int) + 1))) ∧ tm 33 = .lit (.int .i64 c36_33) ∧ tm 46 = .lit (.slice none 0 0) ∧ tm 50 = .lit (.int .i64 r151) ∧ True) (by refine ⟨e141, e142, e143, e144, e146, e147, ?_, ?_, trivial⟩ <;> first | (simp only [ua, b125, w127, e141, e142, e143, e144, e145, e146, e147, w149, nm, seval] <;> rfl) | rfl) ?_
       rintro tm ⟨e153, e154, e155, e156, e157, e158, e159, e160, _⟩
       have b161 := And.intro b125 (And.intro g126 (And.intro w127 (And.intro g128 (And.intro g140 (And.intro g148 (And.intro w149 g150))))))
       cases g162 : (roomOk 8 (List.length (([] : List Int) ++ [r151])))
       ·simp only [g162, hs] at h
        exact absurd h kN36
       simp only [g162, hs] at h
       simp only [vz, tyf, b161, e153, e154, e155, e156, e157, e158, e159, e160, g162, nm, seval]
       refine k_appN (w := 1) (enc := eI) (ys := ([r151])) (el2 := (some 3)) (fun _ => rfl) lf23 ao23 Tryz.underlying23 (by first | rfl | assumption | (simp only [updH_apply, without_apply, et23, b161, nm, seval] <;> rfl) | (simp only [updH_apply, without_apply, cellsL_cons, cellsL_nil, mV_app, mV_app0, tyf, b161, e153, e154, e155, e156, e157, e158, e159, e160, g162, nm, seval]; done)) (Nat.zero_lt_succ _) g162 ?_
       simp only [vz, tyf, b161, e153, e154, e155, e156, e157, e158, e159, e160, g162, nm, seval]
       refine drawK_nil ⟨?_, ?_⟩
       ·simp only [traceR_cons, traceR_nil, hitK_quiet, hitK_nil, and_true, true_and]
        repeat' (first | exact trivial | refine And.intro ?_ ?_ | rw [hitK_quiet] | rw [hitK_cons] | exact Or.inl (by decide +kernel) | exact Or.inl (by dsimp only; decide +kernel) | (refine Or.inr ⟨?_, ?_⟩ <;> simp; done) | (refine Or.inr ⟨?_, ?_⟩ <;> simp <;> omega) | (refine Or.inr ⟨?_, ?_⟩ <;> simp [VEff.wr] <;> omega))
       simp only [vz, tyf, b161, e153, e154, e155, e156, e157, e158, e159, e160, g162, nm, seval]
       exact ⟨p36, Nat.lt_succ_self _, by rw [hI36]; refine ⟨p36, c36_33 + 1, (c36_o0 ++ [r129]), (([] : List Int) ++ [r151]), .ref (nx36 + 10) 0 (List.length (c36_o0 ++ [r129])) 1 (List.length (c36_o0 ++ [r129])), .ref (nx36 + 20) 0 (List.length (([] : List Int) ++ [r151])) 1 (List.length (([] : List Int) ++ [r151])), rfl, cnt_lo hi36, cnt_next hp36, rfl, (show nx9 + 6 ≤ nx36 + 25 by omega), ?_, ?_, ?_, ?_, e153, e154, e155, e156, e157, ?_, Or.inl ⟨nx36 + 10, (sameEl el36_0 3), rfl, (by first | omega | (simp only [nm, seval]; omega)), (by first | omega | (intro hh; simp only [b161, reduceCtorEq] at hh)), (by first | omega | (intro hh; simp only [b161, reduceCtorEq] at hh)), (by first | omega | (intro hh; simp only [b161, reduceCtorEq] at hh)), (by first | omega | (intro hh; simp only [b161, reduceCtorEq] at hh)), ?_⟩, Or.inl ⟨nx36 + 20, (some 3), rfl, (by first | omega | (simp only [nm, seval]; omega)), (by first | omega | (intro hh; simp only [b161, reduceCtorEq] at hh)), (by first | omega | (intro hh; simp only [b161, reduceCtorEq] at hh)), (by first | omega | (intro hh; simp only [b161, reduceCtorEq] at hh)), (by first | omega | (intro hh; simp only [b161, reduceCtorEq] at hh)), ?_⟩, (by first | trivial | (show _ ≠ _; first | omega | (intro hh; simp only [b161, reduceCtorEq] at hh))), h⟩ <;> first | (simp only [ua, b161, e153, e154, e155, e156, e157, e158, e159, e160, nm, seval] <;> rfl) | rfl⟩
    ·rcases ow36_1 with ⟨b36_1, el36_1, rfl, lq164, lq165, lq166, lq167, lq168, H163⟩ | ⟨rfl, rfl⟩
     ·have q164 := own_lt lq164
      have q165 := ne_f lq165
      have q166 := ne_f lq166
      have q167 := ne_f lq167
      have q168 := ne_f lq168
      cases p36 with
      | zero =>
       have d169 : (decide (c36_33 < (IntKind.i64.wrap ((List.length x0_s.Dry : Int) + 1)))) = false := cnt_not_lt hp36
       simp only [g_coat_summed_l1, hs, reduceCtorEq] at h
       replace h := kG36 _ h
       try dsimp only at h
       try simp only [hs] at h
       simp only [neB_nil, hs] at h
       exact absurd h kN
      | succ p36 =>
       have d170 : (decide (c36_33 < (IntKind.i64.wrap ((List.length x0_s.Dry : Int) + 1)))) = true := cnt_lt hp36
       have w171 := cnt_wrap hi36 hp36 g37
       simp only [g_coat_summed_l1, hs, reduceCtorEq] at h
       simp only [vz, tyf, g10, n22, q24, q25, q26, q27, q29, q30, q31, q32, qnr9_0_1, d33, g34, g35, g37, n48, n49, n50, n51, e42, e43, e44, e45, e46, e47, H38, H39, H40, H41, q164, H163, q165, q166, q167, q168, d170, w171, nm, seval]
       refine cwp_drawTF (fun tm => tm 2 = .ptr 1 0 ∧ tm 3 = .ptr 4 0 ∧ tm 4 = .ref b9_0 0 (List.length c9_4) 1 (List.length c9_4) ∧ tm 5 = .ref b9_1 0 (List.length c9_5) 1 (List.length c9_5) ∧ tm 8 = .lit (.int .i64 c36_33) ∧ tm 32 = .lit (.int .i64 (IntKind.i64.wrap ((List.length x0_s.Dry : Int) + 1))) ∧ tm 33 = .lit (.int .i64 c36_33) ∧ True) (by refine ⟨e42, e43, e44, e45, ?_, e46, e47, trivial⟩ <;> first | (simp only [ua, n22, q24, q25, q26, q27, q29, q30, q31, q32, d33, n48, n49, n50, n51, e42, e43, e44, e45, e46, e47, H38, H39, H40, H41, q164, H163, q165, q166, q167, q168, d170, w171, nm, seval] <;> rfl) | rfl) ?_
       rintro tm ⟨e172, e173, e174, e175, e176, e177, e178, _⟩
       have b179 := And.intro g10 (And.intro n22 (And.intro q24 (And.intro q25 (And.intro q26 (And.intro q27 (And.intro q29 (And.intro q30 (And.intro q31 (And.intro q32 (And.intro qnr9_0_1 (And.intro d33 (And.intro g34 (And.intro g35 (And.intro g37 (And.intro n48 (And.intro n49 (And.intro n50 (And.intro n51 (And.intro H38 (And.intro H39 (And.intro H40 (And.intro H41 (And.intro q164 (And.intro H163 (And.intro q165 (And.intro q166 (And.intro q167 (And.intro q168 (And.intro d170 w171)))))))))))))))))))))))))))))
       cases g180 : (pfxOk (List.length c9_4) c36_33)
       ·simp only [g180, hs] at h
        exact absurd h kN36
       simp only [g180, hs] at h
       try simp only [vz, tyf, b179, e172, e173, e174, e175, e176, e177, e178, g180, nm, seval]
       refine k_slP (w := 1) (enc := eI) (xs := c9_4) (el := el9_0) (kd := .i64) Tryz.underlying23 (by kernel_rfl) (by first | (simp only [ev_tmp, ev_func, ev_int, upd_apply, b179, e172, e173, e174, e175, e176, e177, e178, g180, nm, seval] <;> rfl) | rfl) (by first | rfl | assumption | (simp only [updH_apply, without_apply, et23, b179, nm, seval] <;> rfl) | (simp only [updH_apply, without_apply, cellsL_cons, cellsL_nil, mV_app, mV_app0, tyf, b179, e172, e173, e174, e175, e176, e177, e178, g180, nm, seval]; done)) (by first | (simp only [ev_tmp, ev_func, ev_int, upd_apply, b179, e172, e173, e174, e175, e176, e177, e178, g180, nm, seval] <;> rfl) | rfl) g180 ?_
       have w181 := pfx_take (w := 1) (enc := eI) (fun _ => rfl) g180
       cases g182 : (le1000 (List.length c9_4 * 1))
       ·simp only [g182, hs] at h
        exact absurd h kN36
       simp only [g182, hs] at h
       rcases o184 : (g_sum_Of (List.take (Int.toNat c36_33) c9_4)) with _ | r183
       ·simp only [o184, hs] at h
        exact absurd h kN36
       simp only [o184, hs] at h
       simp only [vz, tyf, b179, e172, e173, e174, e175, e176, e177, e178, g180, w181, g182, nm, seval]
       refine dkseenP (w := 1) (enc := eI) (xs := c9_4) (el := el9_0) ⟨eI_ok.tree, eI_ok.norm⟩ (fun _ => rfl) g180 (le1000_of g182) (by simp only [updH_apply, without_apply, et23, b179, nm, seval] <;> rfl) (g_sum_Of_ok _ _ o184) (by first | rfl | simp only [VV.flat, flatL, Bool.and_self]) ?_
       refine fin_cut (fun tm => tm 2 = .ptr 1 0 ∧ tm 3 = .ptr 4 0 ∧ tm 4 = .ref b9_0 0 (List.length c9_4) 1 (List.length c9_4) ∧ tm 5 = .ref b9_1 0 (List.length c9_5) 1 (List.length c9_5) ∧ tm 8 = .lit (.int .i64 c36_33) ∧ tm 32 = .lit (.int .i64 (IntKind.i64.wrap ((List.length x0_s.Dry : Int) + 1))) ∧ tm 33 = .lit (.int .i64 c36_33) ∧ tm 37 = .lit (.slice none 0 0) ∧ tm 41 = .lit (.int .i64 r183) ∧ True) (by refine ⟨e172, e173, e174, e175, e176, e177, e178, ?_, ?_, trivial⟩ <;> first | (simp only [ua, b179, e172, e173, e174, e175, e176, e177, e178, w181, nm, seval] <;> rfl) | rfl) ?_
       rintro tm ⟨e185, e186, e187, e188, e189, e190, e191, e192, e193, _⟩
       cases g194 : (roomOk 8 (List.length (([] : List Int) ++ [r183])))
       ·simp only [g194, hs] at h
        exact absurd h kN36
       simp only [g194, hs] at h
       simp only [vz, tyf, b179, g180, w181, g182, e185, e186, e187, e188, e189, e190, e191, e192, e193, g194, nm, seval]
       refine k_appN (w := 1) (enc := eI) (ys := ([r183])) (el2 := (some 3)) (fun _ => rfl) lf23 ao23 Tryz.underlying23 (by first | rfl | assumption | (simp only [updH_apply, without_apply, et23, b179, nm, seval] <;> rfl) | (simp only [updH_apply, without_apply, cellsL_cons, cellsL_nil, mV_app, mV_app0, tyf, b179, g180, w181, g182, e185, e186, e187, e188, e189, e190, e191, e192, e193, g194, nm, seval]; done)) (Nat.zero_lt_succ _) g194 ?_
       simp only [vz, tyf, b179, g180, w181, g182, e185, e186, e187, e188, e189, e190, e191, e192, e193, g194, nm, seval]
       refine drawK_nil ⟨?_, ?_⟩
       ·simp only [traceR_cons, traceR_nil, hitK_quiet, hitK_nil, and_true, true_and]
        repeat' (first | exact trivial | refine And.intro ?_ ?_ | rw [hitK_quiet] | rw [hitK_cons] | exact Or.inl (by decide +kernel) | exact Or.inl (by dsimp only; decide +kernel) | (refine Or.inr ⟨?_, ?_⟩ <;> simp; done) | (refine Or.inr ⟨?_, ?_⟩ <;> simp <;> omega) | (refine Or.inr ⟨?_, ?_⟩ <;> simp [VEff.wr] <;> omega))
       simp only [vz, tyf, b179, g180, w181, g182, e185, e186, e187, e188, e189, e190, e191, e192, e193, g194, nm, seval]
       refine cwp_drawTF (fun tm => tm 2 = .ptr 1 0 ∧ tm 3 = .ptr 4 0 ∧ tm 4 = .ref b9_0 0 (List.length c9_4) 1 (List.length c9_4) ∧ tm 5 = .ref b9_1 0 (List.length c9_5) 1 (List.length c9_5) ∧ tm 8 = .lit (.int .i64 c36_33) ∧ tm 32 = .lit (.int .i64 (IntKind.i64.wrap ((List.length x0_s.Dry : Int) + 1))) ∧ tm 33 = .lit (.int .i64 c36_33) ∧ True) (by refine ⟨e185, e186, e187, e188, e189, e190, e191, trivial⟩ <;> first | (simp only [ua, b179, w181, e185, e186, e187, e188, e189, e190, e191, e192, e193, nm, seval] <;> rfl) | rfl) ?_
       rintro tm ⟨e195, e196, e197, e198, e199, e200, e201, _⟩
       cases g202 : (pfxOk (List.length c9_5) c36_33)
       ·simp only [g202, hs] at h
        exact absurd h kN36
       simp only [g202, hs] at h
       try simp only [vz, tyf, b179, g180, w181, g182, g194, e195, e196, e197, e198, e199, e200, e201, g202, nm, seval]
       refine k_slP (w := 1) (enc := eI) (xs := c9_5) (el := el9_1) (kd := .i64) Tryz.underlying23 (by kernel_rfl) (by first | (simp only [ev_tmp, ev_func, ev_int, upd_apply, b179, g180, w181, g182, g194, e195, e196, e197, e198, e199, e200, e201, g202, nm, seval] <;> rfl) | rfl) (by first | rfl | assumption | (simp only [updH_apply, without_apply, et23, b179, nm, seval] <;> rfl) | (simp only [updH_apply, without_apply, cellsL_cons, cellsL_nil, mV_app, mV_app0, tyf, b179, g180, w181, g182, g194, e195, e196, e197, e198, e199, e200, e201, g202, nm, seval]; done)) (by first | (simp only [ev_tmp, ev_func, ev_int, upd_apply, b179, g180, w181, g182, g194, e195, e196, e197, e198, e199, e200, e201, g202, nm, seval] <;> rfl) | rfl) g202 ?_
       have w203 := pfx_take (w := 1) (enc := eI) (fun _ => rfl) g202
       cases g204 : (le1000 (List.length c9_5 * 1))
       ·simp only [g204, hs] at h
        exact absurd h kN36
       simp only [g204, hs] at h
       rcases o206 : (g_sum_Of (List.take (Int.toNat c36_33) c9_5)) with _ | r205
       ·simp only [o206, hs] at h
        exact absurd h kN36
       simp only [o206, hs] at h
       simp only [vz, tyf, b179, g180, w181, g182, g194, e195, e196, e197, e198, e199, e200, e201, g202, w203, g204, nm, seval]
       refine dkseenP (w := 1) (enc := eI) (xs := c9_5) (el := el9_1) ⟨eI_ok.tree, eI_ok.norm⟩ (fun _ => rfl) g202 (le1000_of g204) (by simp only [updH_apply, without_apply, et23, b179, nm, seval] <;> rfl) (g_sum_Of_ok _ _ o206) (by first | rfl | simp only [VV.flat, flatL, Bool.and_self]) ?_
       refine fin_cut (fun tm => tm 2 = .ptr 1 0 ∧ tm 3 = .ptr 4 0 ∧ tm 4 = .ref b9_0 0 (List.length c9_4) 1 (List.length c9_4) ∧ tm 5 = .ref b9_1 0 (List.length c9_5) 1 (List.length c9_5) ∧ tm 32 = .lit (.int .i64 (IntKind.i64.wrap ((List.length x0_s.Dry : Int) + 1))) ∧ tm 33 = .lit (.int .i64 c36_33) ∧ tm 46 = .ref b36_1 0 (List.length c36_o1) 1 (List.length c36_o1) ∧ tm 50 = .lit (.int .i64 r205) ∧ True) (by refine ⟨e195, e196, e197, e198, e200, e201, ?_, ?_, trivial⟩ <;> first | (simp only [ua, b179, w181, e195, e196, e197, e198, e199, e200, e201, w203, nm, seval] <;> rfl) | rfl) ?_
       rintro tm ⟨e207, e208, e209, e210, e211, e212, e213, e214, _⟩
       have b215 := And.intro b179 (And.intro g180 (And.intro w181 (And.intro g182 (And.intro g194 (And.intro g202 (And.intro w203 g204))))))
       cases g216 : (roomOk 8 (List.length (c36_o1 ++ [r205])))
       ·simp only [g216, hs] at h
        exact absurd h kN36
       simp only [g216, hs] at h
       simp only [vz, tyf, b215, e207, e208, e209, e210, e211, e212, e213, e214, g216, nm, seval]
       refine k_app (w := 1) (enc := eI) (xs := c36_o1) (ys := ([r205])) (el := el36_1) (el2 := (some 3)) (fun _ => rfl) lf23 ao23 Tryz.underlying23 (by first | rfl | assumption | (simp only [updH_apply, without_apply, et23, b215, nm, seval] <;> rfl) | (simp only [updH_apply, without_apply, cellsL_cons, cellsL_nil, mV_app, mV_app0, tyf, b215, e207, e208, e209, e210, e211, e212, e213, e214, g216, nm, seval]; done)) (by first | rfl | assumption | (simp only [updH_apply, without_apply, et23, b215, nm, seval] <;> rfl) | (simp only [updH_apply, without_apply, cellsL_cons, cellsL_nil, mV_app, mV_app0, tyf, b215, e207, e208, e209, e210, e211, e212, e213, e214, g216, nm, seval]; done)) (Nat.zero_lt_succ _) g216 ?_
       simp only [vz, tyf, b215, e207, e208, e209, e210, e211, e212, e213, e214, g216, nm, seval]
       refine drawK_nil ⟨?_, ?_⟩
       ·simp only [traceR_cons, traceR_nil, hitK_quiet, hitK_nil, and_true, true_and]
        repeat' (first | exact trivial | refine And.intro ?_ ?_ | rw [hitK_quiet] | rw [hitK_cons] | exact Or.inl (by decide +kernel) | exact Or.inl (by dsimp only; decide +kernel) | (refine Or.inr ⟨?_, ?_⟩ <;> simp; done) | (refine Or.inr ⟨?_, ?_⟩ <;> simp <;> omega) | (refine Or.inr ⟨?_, ?_⟩ <;> simp [VEff.wr] <;> omega))
       simp only [vz, tyf, b215, e207, e208, e209, e210, e211, e212, e213, e214, g216, nm, seval]
       exact ⟨p36, Nat.lt_succ_self _, by rw [hI36]; refine ⟨p36, c36_33 + 1, (([] : List Int) ++ [r183]), (c36_o1 ++ [r205]), .ref (nx36 + 10) 0 (List.length (([] : List Int) ++ [r183])) 1 (List.length (([] : List Int) ++ [r183])), .ref (nx36 + 20) 0 (List.length (c36_o1 ++ [r205])) 1 (List.length (c36_o1 ++ [r205])), rfl, cnt_lo hi36, cnt_next hp36, rfl, (show nx9 + 6 ≤ nx36 + 25 by omega), ?_, ?_, ?_, ?_, e207, e208, e209, e210, e211, ?_, Or.inl ⟨nx36 + 10, (some 3), rfl, (by first | omega | (simp only [nm, seval]; omega)), (by first | omega | (intro hh; simp only [b215, reduceCtorEq] at hh)), (by first | omega | (intro hh; simp only [b215, reduceCtorEq] at hh)), (by first | omega | (intro hh; simp only [b215, reduceCtorEq] at hh)), (by first | omega | (intro hh; simp only [b215, reduceCtorEq] at hh)), ?_⟩, Or.inl ⟨nx36 + 20, (sameEl el36_1 3), rfl, (by first | omega | (simp only [nm, seval]; omega)), (by first | omega | (intro hh; simp only [b215, reduceCtorEq] at hh)), (by first | omega | (intro hh; simp only [b215, reduceCtorEq] at hh)), (by first | omega | (intro hh; simp only [b215, reduceCtorEq] at hh)), (by first | omega | (intro hh; simp only [b215, reduceCtorEq] at hh)), ?_⟩, (by first | trivial | (show _ ≠ _; first | omega | (intro hh; simp only [b215, reduceCtorEq] at hh))), h⟩ <;> first | (simp only [ua, b215, e207, e208, e209, e210, e211, e212, e213, e214, nm, seval] <;> rfl) | rfl⟩
     ·cases p36 with
      | zero =>
       have d217 : (decide (c36_33 < (IntKind.i64.wrap ((List.length x0_s.Dry : Int) + 1)))) = false := cnt_not_lt hp36
       simp only [g_coat_summed_l1, hs, reduceCtorEq] at h
       replace h := kG36 _ h
       try dsimp only at h
       try simp only [hs] at h
       simp only [neB_nil, hs] at h
       exact absurd h kN
      | succ p36 =>
       have d218 : (decide (c36_33 < (IntKind.i64.wrap ((List.length x0_s.Dry : Int) + 1)))) = true := cnt_lt hp36
       have w219 := cnt_wrap hi36 hp36 g37
       simp only [g_coat_summed_l1, hs, reduceCtorEq] at h
       simp only [vz, tyf, g10, n22, q24, q25, q26, q27, q29, q30, q31, q32, qnr9_0_1, d33, g34, g35, g37, n48, n49, n50, n51, e42, e43, e44, e45, e46, e47, H38, H39, H40, H41, d218, w219, nm, seval]
       refine cwp_drawTF (fun tm => tm 2 = .ptr 1 0 ∧ tm 3 = .ptr 4 0 ∧ tm 4 = .ref b9_0 0 (List.length c9_4) 1 (List.length c9_4) ∧ tm 5 = .ref b9_1 0 (List.length c9_5) 1 (List.length c9_5) ∧ tm 8 = .lit (.int .i64 c36_33) ∧ tm 32 = .lit (.int .i64 (IntKind.i64.wrap ((List.length x0_s.Dry : Int) + 1))) ∧ tm 33 = .lit (.int .i64 c36_33) ∧ True) (by refine ⟨e42, e43, e44, e45, ?_, e46, e47, trivial⟩ <;> first | (simp only [ua, n22, q24, q25, q26, q27, q29, q30, q31, q32, d33, n48, n49, n50, n51, e42, e43, e44, e45, e46, e47, H38, H39, H40, H41, d218, w219, nm, seval] <;> rfl) | rfl) ?_
       rintro tm ⟨e220, e221, e222, e223, e224, e225, e226, _⟩
       have b227 := And.intro g10 (And.intro n22 (And.intro q24 (And.intro q25 (And.intro q26 (And.intro q27 (And.intro q29 (And.intro q30 (And.intro q31 (And.intro q32 (And.intro qnr9_0_1 (And.intro d33 (And.intro g34 (And.intro g35 (And.intro g37 (And.intro n48 (And.intro n49 (And.intro n50 (And.intro n51 (And.intro H38 (And.intro H39 (And.intro H40 (And.intro H41 (And.intro d218 w219)))))))))))))))))))))))
       cases g228 : (pfxOk (List.length c9_4) c36_33)
       ·simp only [g228, hs] at h
        exact absurd h kN36
       simp only [g228, hs] at h
       try simp only [vz, tyf, b227, e220, e221, e222, e223, e224, e225, e226, g228, nm, seval]
       refine k_slP (w := 1) (enc := eI) (xs := c9_4) (el := el9_0) (kd := .i64) Tryz.underlying23 (by kernel_rfl) (by first | (simp only [ev_tmp, ev_func, ev_int, upd_apply, b227, e220, e221, e222, e223, e224, e225, e226, g228, nm, seval] <;> rfl) | rfl) (by first | rfl | assumption | (simp only [updH_apply, without_apply, et23, b227, nm, seval] <;> rfl) | (simp only [updH_apply, without_apply, cellsL_cons, cellsL_nil, mV_app, mV_app0, tyf, b227, e220, e221, e222, e223, e224, e225, e226, g228, nm, seval]; done)) (by first | (simp only [ev_tmp, ev_func, ev_int, upd_apply, b227, e220, e221, e222, e223, e224, e225, e226, g228, nm, seval] <;> rfl) | rfl) g228 ?_
       have w229 := pfx_take (w := 1) (enc := eI) (fun _ => rfl) g228
       cases g230 : (le1000 (List.length c9_4 * 1))
       ·simp only [g230, hs] at h
        exact absurd h kN36
       simp only [g230, hs] at h
       rcases o232 : (g_sum_Of (List.take (Int.toNat c36_33) c9_4)) with _ | r231
       ·simp only [o232, hs] at h
        exact absurd h kN36
       simp only [o232, hs] at h
       simp only [vz, tyf, b227, e220, e221, e222, e223, e224, e225, e226, g228, w229, g230, nm, seval]
       refine dkseenP (w := 1) (enc := eI) (xs := c9_4) (el := el9_0) ⟨eI_ok.tree, eI_ok.norm⟩ (fun _ => rfl) g228 (le1000_of g230) (by simp only [updH_apply, without_apply, et23, b227, nm, seval] <;> rfl) (g_sum_Of_ok _ _ o232) (by first | rfl | simp only [VV.flat, flatL, Bool.and_self]) ?_
       refine fin_cut (fun tm => tm 2 = .ptr 1 0 ∧ tm 3 = .ptr 4 0 ∧ tm 4 = .ref b9_0 0 (List.length c9_4) 1 (List.length c9_4) ∧ tm 5 = .ref b9_1 0 (List.length c9_5) 1 (List.length c9_5) ∧ tm 8 = .lit (.int .i64 c36_33) ∧ tm 32 = .lit (.int .i64 (IntKind.i64.wrap ((List.length x0_s.Dry : Int) + 1))) ∧ tm 33 = .lit (.int .i64 c36_33) ∧ tm 37 = .lit (.slice none 0 0) ∧ tm 41 = .lit (.int .i64 r231) ∧ True) (by refine ⟨e220, e221, e222, e223, e224, e225, e226, ?_, ?_, trivial⟩ <;> first | (simp only [ua, b227, e220, e221, e222, e223, e224, e225, e226, w229, nm, seval] <;> rfl) | rfl) ?_
       rintro tm ⟨e233, e234, e235, e236, e237, e238, e239, e240, e241, _⟩
       cases g242 : (roomOk 8 (List.length (([] : List Int) ++ [r231])))
       ·simp only [g242, hs] at h
        exact absurd h kN36
       simp only [g242, hs] at h
       simp only [vz, tyf, b227, g228, w229, g230, e233, e234, e235, e236, e237, e238, e239, e240, e241, g242, nm, seval]
       refine k_appN (w := 1) (enc := eI) (ys := ([r231])) (el2 := (some 3)) (fun _ => rfl) lf23 ao23 Tryz.underlying23 (by first | rfl | assumption | (simp only [updH_apply, without_apply, et23, b227, nm, seval] <;> rfl) | (simp only [updH_apply, without_apply, cellsL_cons, cellsL_nil, mV_app, mV_app0, tyf, b227, g228, w229, g230, e233, e234, e235, e236, e237, e238, e239, e240, e241, g242, nm, seval]; done)) (Nat.zero_lt_succ _) g242 ?_
       simp only [vz, tyf, b227, g228, w229, g230, e233, e234, e235, e236, e237, e238, e239, e240, e241, g242, nm, seval]
       refine drawK_nil ⟨?_, ?_⟩
       ·simp only [traceR_cons, traceR_nil, hitK_quiet, hitK_nil, and_true, true_and]
        repeat' (first | exact trivial | refine And.intro ?_ ?_ | rw [hitK_quiet] | rw [hitK_cons] | exact Or.inl (by decide +kernel) | exact Or.inl (by dsimp only; decide +kernel) | (refine Or.inr ⟨?_, ?_⟩ <;> simp; done) | (refine Or.inr ⟨?_, ?_⟩ <;> simp <;> omega) | (refine Or.inr ⟨?_, ?_⟩ <;> simp [VEff.wr] <;> omega))
       simp only [vz, tyf, b227, g228, w229, g230, e233, e234, e235, e236, e237, e238, e239, e240, e241, g242, nm, seval]
       refine cwp_drawTF (fun tm => tm 2 = .ptr 1 0 ∧ tm 3 = .ptr 4 0 ∧ tm 4 = .ref b9_0 0 (List.length c9_4) 1 (List.length c9_4) ∧ tm 5 = .ref b9_1 0 (List.length c9_5) 1 (List.length c9_5) ∧ tm 8 = .lit (.int .i64 c36_33) ∧ tm 32 = .lit (.int .i64 (IntKind.i64.wrap ((List.length x0_s.Dry : Int) + 1))) ∧ tm 33 = .lit (.int .i64 c36_33) ∧ True) (by refine ⟨e233, e234, e235, e236, e237, e238, e239, trivial⟩ <;> first | (simp only [ua, b227, w229, e233, e234, e235, e236, e237, e238, e239, e240, e241, nm, seval] <;> rfl) | rfl) ?_
       rintro tm ⟨e243, e244, e245, e246, e247, e248, e249, _⟩
       cases g250 : (pfxOk (List.length c9_5) c36_33)
       ·simp only [g250, hs] at h
        exact absurd h kN36
       simp only [g250, hs] at h
       try simp only [vz, tyf, b227, g228, w229, g230, g242, e243, e244, e245, e246, e247, e248, e249, g250, nm, seval]
       refine k_slP (w := 1) (enc := eI) (xs := c9_5) (el := el9_1) (kd := .i64) Tryz.underlying23 (by kernel_rfl) (by first | (simp only [ev_tmp, ev_func, ev_int, upd_apply, b227, g228, w229, g230, g242, e243, e244, e245, e246, e247, e248, e249, g250, nm, seval] <;> rfl) | rfl) (by first | rfl | assumption | (simp only [updH_apply, without_apply, et23, b227, nm, seval] <;> rfl) | (simp only [updH_apply, without_apply, cellsL_cons, cellsL_nil, mV_app, mV_app0, tyf, b227, g228, w229, g230, g242, e243, e244, e245, e246, e247, e248, e249, g250, nm, seval]; done)) (by first | (simp only [ev_tmp, ev_func, ev_int, upd_apply, b227, g228, w229, g230, g242, e243, e244, e245, e246, e247, e248, e249, g250, nm, seval] <;> rfl) | rfl) g250 ?_
       have w251 := pfx_take (w := 1) (enc := eI) (fun _ => rfl) g250
       cases g252 : (le1000 (List.length c9_5 * 1))
       ·simp only [g252, hs] at h
        exact absurd h kN36
       simp only [g252, hs] at h
       rcases o254 : (g_sum_Of (List.take (Int.toNat c36_33) c9_5)) with _ | r253
       ·simp only [o254, hs] at h
        exact absurd h kN36
       simp only [o254, hs] at h
       simp only [vz, tyf, b227, g228, w229, g230, g242, e243, e244, e245, e246, e247, e248, e249, g250, w251, g252, nm, seval]
       refine dkseenP (w := 1) (enc := eI) (xs := c9_5) (el := el9_1) ⟨eI_ok.tree, eI_ok.norm⟩ (fun _ => rfl) g250 (le1000_of g252) (by simp only [updH_apply, without_apply, et23, b227, nm, seval] <;> rfl) (g_sum_Of_ok _ _ o254) (by first | rfl | simp only [VV.flat, flatL, Bool.and_self]) ?_
       refine fin_cut (fun tm => tm 2 = .ptr 1 0 ∧ tm 3 = .ptr 4 0 ∧ tm 4 = .ref b9_0 0 (List.length c9_4) 1 (List.length c9_4) ∧ tm 5 = .ref b9_1 0 (List.length c9_5) 1 (List.length c9_5) ∧ tm 32 = .lit (.int .i64 (IntKind.i64.wrap ((List.length x0_s.Dry : Int) + 1))) ∧ tm 33 = .lit (.int .i64 c36_33) ∧ tm 46 = .lit (.slice none 0 0) ∧ tm 50 = .lit (.int .i64 r253) ∧ True) (by refine ⟨e243, e244, e245, e246, e248, e249, ?_, ?_, trivial⟩ <;> first | (simp only [ua, b227, w229, e243, e244, e245, e246, e247, e248, e249, w251, nm, seval] <;> rfl) | rfl) ?_
       rintro tm ⟨e255, e256, e257, e258, e259, e260, e261, e262, _⟩
       have b263 := And.intro b227 (And.intro g228 (And.intro w229 (And.intro g230 (And.intro g242 (And.intro g250 (And.intro w251 g252))))))
       cases g264 : (roomOk 8 (List.length (([] : List Int) ++ [r253])))
       ·simp only [g264, hs] at h
        exact absurd h kN36
       simp only [g264, hs] at h
       simp only [vz, tyf, b263, e255, e256, e257, e258, e259, e260, e261, e262, g264, nm, seval]
       refine k_appN (w := 1) (enc := eI) (ys := ([r253])) (el2 := (some 3)) (fun _ => rfl) lf23 ao23 Tryz.underlying23 (by first | rfl | assumption | (simp only [updH_apply, without_apply, et23, b263, nm, seval] <;> rfl) | (simp only [updH_apply, without_apply, cellsL_cons, cellsL_nil, mV_app, mV_app0, tyf, b263, e255, e256, e257, e258, e259, e260, e261, e262, g264, nm, seval]; done)) (Nat.zero_lt_succ _) g264 ?_
       simp only [vz, tyf, b263, e255, e256, e257, e258, e259, e260, e261, e262, g264, nm, seval]
       refine drawK_nil ⟨?_, ?_⟩
       ·simp only [traceR_cons, traceR_nil, hitK_quiet, hitK_nil, and_true, true_and]
        repeat' (first | exact trivial | refine And.intro ?_ ?_ | rw [hitK_quiet] | rw [hitK_cons] | exact Or.inl (by decide +kernel) | exact Or.inl (by dsimp only; decide +kernel) | (refine Or.inr ⟨?_, ?_⟩ <;> simp; done) | (refine Or.inr ⟨?_, ?_⟩ <;> simp <;> omega) | (refine Or.inr ⟨?_, ?_⟩ <;> simp [VEff.wr] <;> omega))
       simp only [vz, tyf, b263, e255, e256, e257, e258, e259, e260, e261, e262, g264, nm, seval]
       exact ⟨p36, Nat.lt_succ_self _, by rw [hI36]; refine ⟨p36, c36_33 + 1, (([] : List Int) ++ [r231]), (([] : List Int) ++ [r253]), .ref (nx36 + 10) 0 (List.length (([] : List Int) ++ [r231])) 1 (List.length (([] : List Int) ++ [r231])), .ref (nx36 + 20) 0 (List.length (([] : List Int) ++ [r253])) 1 (List.length (([] : List Int) ++ [r253])), rfl, cnt_lo hi36, cnt_next hp36, rfl, (show nx9 + 6 ≤ nx36 + 25 by omega), ?_, ?_, ?_, ?_, e255, e256, e257, e258, e259, ?_, Or.inl ⟨nx36 + 10, (some 3), rfl, (by first | omega | (simp only [nm, seval]; omega)), (by first | omega | (intro hh; simp only [b263, reduceCtorEq] at hh)), (by first | omega | (intro hh; simp only [b263, reduceCtorEq] at hh)), (by first | omega | (intro hh; simp only [b263, reduceCtorEq] at hh)), (by first | omega | (intro hh; simp only [b263, reduceCtorEq] at hh)), ?_⟩, Or.inl ⟨nx36 + 20, (some 3), rfl, (by first | omega | (simp only [nm, seval]; omega)), (by first | omega | (intro hh; simp only [b263, reduceCtorEq] at hh)), (by first | omega | (intro hh; simp only [b263, reduceCtorEq] at hh)), (by first | omega | (intro hh; simp only [b263, reduceCtorEq] at hh)), (by first | omega | (intro hh; simp only [b263, reduceCtorEq] at hh)), ?_⟩, (by first | trivial | (show _ ≠ _; first | omega | (intro hh; simp only [b263, reduceCtorEq] at hh))), h⟩ <;> first | (simp only [ua, b263, e255, e256, e257, e258, e259, e260, e261, e262, nm, seval] <;> rfl) | rfl⟩
   | cons e9 p9 =>
    have d265 : (decide (c9_14 < (List.length x0_s.Dry : Int))) = true := lt_of_drop hi9 hp9
    have o267 := getI_of_drop hi9 hp9
    have w266 := wrap_next hi9 hp9 g10
    simp only [g_coat_summed_l0, hs, reduceCtorEq] at h
    simp only [vz, tyf, g10, n22, e14, e15, e16, e17, e18, e19, e20, e21, H11, H12, H13, q24, H23, q25, q26, q27, q29, H28, q30, q31, q32, qnr9_0_1, d265, (ix22 o267), w266, nm, seval]
    refine cwp_drawTF (fun tm => tm 1 = .ptr 0 0 ∧ tm 2 = .ptr 1 0 ∧ tm 3 = .ptr 4 0 ∧ tm 4 = .ref b9_0 0 (List.length c9_4) 1 (List.length c9_4) ∧ tm 5 = .ref b9_1 0 (List.length c9_5) 1 (List.length c9_5) ∧ tm 7 = .ptr (nx9 + 3) 0 ∧ tm 12 = .sl (cellsL cGSpan x0_s.Dry) (List.length x0_s.Dry) false ∧ tm 13 = .lit (.int .i64 (List.length x0_s.Dry : Int)) ∧ tm 14 = .lit (.int .i64 c9_14) ∧ True) (by refine ⟨e14, e15, e16, e19, e20, ?_, e17, e18, e21, trivial⟩ <;> first | (simp only [ua, n22, e14, e15, e16, e17, e18, e19, e20, e21, H11, H12, H13, q24, H23, q25, q26, q27, q29, H28, q30, q31, q32, d265, w266, nm, seval] <;> rfl) | rfl) ?_
    rintro tm ⟨e268, e269, e270, e271, e272, e273, e274, e275, e276, _⟩
    have b277 := And.intro g10 (And.intro n22 (And.intro H11 (And.intro H12 (And.intro H13 (And.intro q24 (And.intro H23 (And.intro q25 (And.intro q26 (And.intro q27 (And.intro q29 (And.intro H28 (And.intro q30 (And.intro q31 (And.intro q32 (And.intro qnr9_0_1 (And.intro d265 w266))))))))))))))))
    cases g278 : (roomOk 8 (List.length (c9_4 ++ [e9.Low])))
    ·simp only [g278, hs] at h
     exact absurd h kN9
    simp only [g278, hs] at h
    simp only [vz, tyf, b277, (ix22 o267), e268, e269, e270, e271, e272, e273, e274, e275, e276, g278, nm, seval]
    refine k_app (w := 1) (enc := eI) (xs := c9_4) (ys := ([e9.Low])) (el := el9_0) (el2 := (some 3)) (fun _ => rfl) lf23 ao23 Tryz.underlying23 (by first | rfl | assumption | (simp only [updH_apply, without_apply, et23, b277, nm, seval] <;> rfl) | (simp only [updH_apply, without_apply, cellsL_cons, cellsL_nil, mV_app, mV_app0, tyf, b277, (ix22 o267), e268, e269, e270, e271, e272, e273, e274, e275, e276, g278, nm, seval]; done)) (by first | rfl | assumption | (simp only [updH_apply, without_apply, et23, b277, nm, seval] <;> rfl) | (simp only [updH_apply, without_apply, cellsL_cons, cellsL_nil, mV_app, mV_app0, tyf, b277, (ix22 o267), e268, e269, e270, e271, e272, e273, e274, e275, e276, g278, nm, seval]; done)) (Nat.zero_lt_succ _) g278 ?_
    cases g279 : (roomOk 8 (List.length (c9_5 ++ [e9.High])))
    ·simp only [g279, hs] at h
     exact absurd h kN9
    simp only [g279, hs] at h
    simp only [vz, tyf, b277, (ix22 o267), e268, e269, e270, e271, e272, e273, e274, e275, e276, g278, g279, nm, seval]
    refine k_app (w := 1) (enc := eI) (xs := c9_5) (ys := ([e9.High])) (el := el9_1) (el2 := (some 3)) (fun _ => rfl) lf23 ao23 Tryz.underlying23 (by first | rfl | assumption | (simp only [updH_apply, without_apply, et23, b277, nm, seval] <;> rfl) | (simp only [updH_apply, without_apply, cellsL_cons, cellsL_nil, mV_app, mV_app0, tyf, b277, (ix22 o267), e268, e269, e270, e271, e272, e273, e274, e275, e276, g278, g279, nm, seval]; done)) (by first | rfl | assumption | (simp only [updH_apply, without_apply, et23, b277, nm, seval] <;> rfl) | (simp only [updH_apply, without_apply, cellsL_cons, cellsL_nil, mV_app, mV_app0, tyf, b277, (ix22 o267), e268, e269, e270, e271, e272, e273, e274, e275, e276, g278, g279, nm, seval]; done)) (Nat.zero_lt_succ _) g279 ?_
    simp only [vz, tyf, b277, (ix22 o267), e268, e269, e270, e271, e272, e273, e274, e275, e276, g278, g279, nm, seval]
    refine drawK_nil ⟨?_, ?_⟩
    ·simp only [traceR_cons, traceR_nil, hitK_quiet, hitK_nil, and_true, true_and]
     repeat' (first | exact trivial | refine And.intro ?_ ?_ | rw [hitK_quiet] | rw [hitK_cons] | exact Or.inl (by decide +kernel) | exact Or.inl (by dsimp only; decide +kernel) | (refine Or.inr ⟨?_, ?_⟩ <;> simp; done) | (refine Or.inr ⟨?_, ?_⟩ <;> simp <;> omega) | (refine Or.inr ⟨?_, ?_⟩ <;> simp [VEff.wr] <;> omega))
    simp only [vz, tyf, b277, (ix22 o267), e268, e269, e270, e271, e272, e273, e274, e275, e276, g278, g279, nm, seval]
    exact ⟨List.length p9, Nat.lt_succ_self _, by rw [hI9]; refine ⟨p9, c9_14 + 1, (c9_4 ++ [e9.Low]), (c9_5 ++ [e9.High]), .ref (nx9 + 9) 0 (List.length (c9_4 ++ [e9.Low])) 1 (List.length (c9_4 ++ [e9.Low])), .ref (nx9 + 14) 0 (List.length (c9_5 ++ [e9.High])) 1 (List.length (c9_5 ++ [e9.High])), rfl, Int.le_trans hi9 (Int.le_add_one (Int.le_refl _)), drop_next hi9 hp9, rfl, (show 12 ≤ nx9 + 19 by omega), ?_, ?_, ?_, e268, e269, e270, e274, e275, ?_, ?_, ?_, Or.inl ⟨nx9 + 9, (sameEl el9_0 3), rfl, (by first | omega | (simp only [nm, seval]; omega)), (by first | omega | (intro hh; simp only [b277, reduceCtorEq] at hh)), (by first | omega | (intro hh; simp only [b277, reduceCtorEq] at hh)), (by first | omega | (intro hh; simp only [b277, reduceCtorEq] at hh)), ?_⟩, Or.inl ⟨nx9 + 14, (sameEl el9_1 3), rfl, (by first | omega | (simp only [nm, seval]; omega)), (by first | omega | (intro hh; simp only [b277, reduceCtorEq] at hh)), (by first | omega | (intro hh; simp only [b277, reduceCtorEq] at hh)), (by first | omega | (intro hh; simp only [b277, reduceCtorEq] at hh)), ?_⟩, (by first | trivial | (show _ ≠ _; first | omega | (intro hh; simp only [b277, reduceCtorEq] at hh))), h⟩ <;> first | (simp only [ua, b277, e268, e269, e270, e271, e272, e273, e274, e275, e276, nm, seval] <;> rfl) | rfl⟩
  ·cases p9 with
   | nil =>
    have d280 : (decide (c9_14 < (List.length x0_s.Dry : Int))) = false := not_lt_of_drop hi9 hp9
    simp only [g_coat_summed_l0, hs, reduceCtorEq] at h
    replace h := kG9 _ h
    try dsimp only at h
    try simp only [hs] at h
    cases g281 : (neB c9_4)
    ·simp only [g281, hs] at h
     exact absurd h kN
    simp only [g281, hs] at h
    simp only [neB_nil, hs] at h
    exact absurd h kN
   | cons e9 p9 =>
    have d282 : (decide (c9_14 < (List.length x0_s.Dry : Int))) = true := lt_of_drop hi9 hp9
    have o284 := getI_of_drop hi9 hp9
    have w283 := wrap_next hi9 hp9 g10
    simp only [g_coat_summed_l0, hs, reduceCtorEq] at h
    simp only [vz, tyf, g10, n22, e14, e15, e16, e17, e18, e19, e20, e21, H11, H12, H13, q24, H23, q25, q26, q27, d282, (ix22 o284), w283, nm, seval]
    refine cwp_drawTF (fun tm => tm 1 = .ptr 0 0 ∧ tm 2 = .ptr 1 0 ∧ tm 3 = .ptr 4 0 ∧ tm 4 = .ref b9_0 0 (List.length c9_4) 1 (List.length c9_4) ∧ tm 5 = .lit (.slice none 0 0) ∧ tm 7 = .ptr (nx9 + 3) 0 ∧ tm 12 = .sl (cellsL cGSpan x0_s.Dry) (List.length x0_s.Dry) false ∧ tm 13 = .lit (.int .i64 (List.length x0_s.Dry : Int)) ∧ tm 14 = .lit (.int .i64 c9_14) ∧ True) (by refine ⟨e14, e15, e16, e19, e20, ?_, e17, e18, e21, trivial⟩ <;> first | (simp only [ua, n22, e14, e15, e16, e17, e18, e19, e20, e21, H11, H12, H13, q24, H23, q25, q26, q27, d282, w283, nm, seval] <;> rfl) | rfl) ?_
    rintro tm ⟨e285, e286, e287, e288, e289, e290, e291, e292, e293, _⟩
    have b294 := And.intro g10 (And.intro n22 (And.intro H11 (And.intro H12 (And.intro H13 (And.intro q24 (And.intro H23 (And.intro q25 (And.intro q26 (And.intro q27 (And.intro d282 w283))))))))))
    cases g295 : (roomOk 8 (List.length (c9_4 ++ [e9.Low])))
    ·simp only [g295, hs] at h
     exact absurd h kN9
    simp only [g295, hs] at h
    simp only [vz, tyf, b294, (ix22 o284), e285, e286, e287, e288, e289, e290, e291, e292, e293, g295, nm, seval]
    refine k_app (w := 1) (enc := eI) (xs := c9_4) (ys := ([e9.Low])) (el := el9_0) (el2 := (some 3)) (fun _ => rfl) lf23 ao23 Tryz.underlying23 (by first | rfl | assumption | (simp only [updH_apply, without_apply, et23, b294, nm, seval] <;> rfl) | (simp only [updH_apply, without_apply, cellsL_cons, cellsL_nil, mV_app, mV_app0, tyf, b294, (ix22 o284), e285, e286, e287, e288, e289, e290, e291, e292, e293, g295, nm, seval]; done)) (by first | rfl | assumption | (simp only [updH_apply, without_apply, et23, b294, nm, seval] <;> rfl) | (simp only [updH_apply, without_apply, cellsL_cons, cellsL_nil, mV_app, mV_app0, tyf, b294, (ix22 o284), e285, e286, e287, e288, e289, e290, e291, e292, e293, g295, nm, seval]; done)) (Nat.zero_lt_succ _) g295 ?_
    cases g296 : (roomOk 8 (List.length (([] : List Int) ++ [e9.High])))
    ·simp only [g296, hs] at h
     exact absurd h kN9
    simp only [g296, hs] at h
    simp only [vz, tyf, b294, (ix22 o284), e285, e286, e287, e288, e289, e290, e291, e292, e293, g295, g296, nm, seval]
    refine k_appN (w := 1) (enc := eI) (ys := ([e9.High])) (el2 := (some 3)) (fun _ => rfl) lf23 ao23 Tryz.underlying23 (by first | rfl | assumption | (simp only [updH_apply, without_apply, et23, b294, nm, seval] <;> rfl) | (simp only [updH_apply, without_apply, cellsL_cons, cellsL_nil, mV_app, mV_app0, tyf, b294, (ix22 o284), e285, e286, e287, e288, e289, e290, e291, e292, e293, g295, g296, nm, seval]; done)) (Nat.zero_lt_succ _) g296 ?_
    simp only [vz, tyf, b294, (ix22 o284), e285, e286, e287, e288, e289, e290, e291, e292, e293, g295, g296, nm, seval]
    refine drawK_nil ⟨?_, ?_⟩
    ·simp only [traceR_cons, traceR_nil, hitK_quiet, hitK_nil, and_true, true_and]
     repeat' (first | exact trivial | refine And.intro ?_ ?_ | rw [hitK_quiet] | rw [hitK_cons] | exact Or.inl (by decide +kernel) | exact Or.inl (by dsimp only; decide +kernel) | (refine Or.inr ⟨?_, ?_⟩ <;> simp; done) | (refine Or.inr ⟨?_, ?_⟩ <;> simp <;> omega) | (refine Or.inr ⟨?_, ?_⟩ <;> simp [VEff.wr] <;> omega))
    simp only [vz, tyf, b294, (ix22 o284), e285, e286, e287, e288, e289, e290, e291, e292, e293, g295, g296, nm, seval]
    exact ⟨List.length p9, Nat.lt_succ_self _, by rw [hI9]; refine ⟨p9, c9_14 + 1, (c9_4 ++ [e9.Low]), (([] : List Int) ++ [e9.High]), .ref (nx9 + 9) 0 (List.length (c9_4 ++ [e9.Low])) 1 (List.length (c9_4 ++ [e9.Low])), .ref (nx9 + 14) 0 (List.length (([] : List Int) ++ [e9.High])) 1 (List.length (([] : List Int) ++ [e9.High])), rfl, Int.le_trans hi9 (Int.le_add_one (Int.le_refl _)), drop_next hi9 hp9, rfl, (show 12 ≤ nx9 + 19 by omega), ?_, ?_, ?_, e285, e286, e287, e291, e292, ?_, ?_, ?_, Or.inl ⟨nx9 + 9, (sameEl el9_0 3), rfl, (by first | omega | (simp only [nm, seval]; omega)), (by first | omega | (intro hh; simp only [b294, reduceCtorEq] at hh)), (by first | omega | (intro hh; simp only [b294, reduceCtorEq] at hh)), (by first | omega | (intro hh; simp only [b294, reduceCtorEq] at hh)), ?_⟩, Or.inl ⟨nx9 + 14, (some 3), rfl, (by first | omega | (simp only [nm, seval]; omega)), (by first | omega | (intro hh; simp only [b294, reduceCtorEq] at hh)), (by first | omega | (intro hh; simp only [b294, reduceCtorEq] at hh)), (by first | omega | (intro hh; simp only [b294, reduceCtorEq] at hh)), ?_⟩, (by first | trivial | (show _ ≠ _; first | omega | (intro hh; simp only [b294, reduceCtorEq] at hh))), h⟩ <;> first | (simp only [ua, b294, e285, e286, e287, e288, e289, e290, e291, e292, e293, nm, seval] <;> rfl) | rfl⟩
 ·rcases ow9_1 with ⟨b9_1, el9_1, rfl, lq298, lq299, lq300, lq301, H297⟩ | ⟨rfl, rfl⟩
  ·have q298 := own_lt lq298
   have q299 := ne_f lq299
   have q300 := ne_f lq300
   have q301 := ne_f lq301
   cases p9 with
   | nil =>
    have d302 : (decide (c9_14 < (List.length x0_s.Dry : Int))) = false := not_lt_of_drop hi9 hp9
    simp only [g_coat_summed_l0, hs, reduceCtorEq] at h
    replace h := kG9 _ h
    try dsimp only at h
    try simp only [hs] at h
    simp only [neB_nil, hs] at h
    exact absurd h kN
   | cons e9 p9 =>
    have d303 : (decide (c9_14 < (List.length x0_s.Dry : Int))) = true := lt_of_drop hi9 hp9
    have o305 := getI_of_drop hi9 hp9
    have w304 := wrap_next hi9 hp9 g10
    simp only [g_coat_summed_l0, hs, reduceCtorEq] at h
    simp only [vz, tyf, g10, n22, e14, e15, e16, e17, e18, e19, e20, e21, H11, H12, H13, q298, H297, q299, q300, q301, d303, (ix22 o305), w304, nm, seval]
    refine cwp_drawTF (fun tm => tm 1 = .ptr 0 0 ∧ tm 2 = .ptr 1 0 ∧ tm 3 = .ptr 4 0 ∧ tm 4 = .lit (.slice none 0 0) ∧ tm 5 = .ref b9_1 0 (List.length c9_5) 1 (List.length c9_5) ∧ tm 7 = .ptr (nx9 + 3) 0 ∧ tm 12 = .sl (cellsL cGSpan x0_s.Dry) (List.length x0_s.Dry) false ∧ tm 13 = .lit (.int .i64 (List.length x0_s.Dry : Int)) ∧ tm 14 = .lit (.int .i64 c9_14) ∧ True) (by refine ⟨e14, e15, e16, e19, e20, ?_, e17, e18, e21, trivial⟩ <;> first | (simp only [ua, n22, e14, e15, e16, e17, e18, e19, e20, e21, H11, H12, H13, q298, H297, q299, q300, q301, d303, w304, nm, seval] <;> rfl) | rfl) ?_
    rintro tm ⟨e306, e307, e308, e309, e310, e311, e312, e313, e314, _⟩
    have b315 := And.intro g10 (And.intro n22 (And.intro H11 (And.intro H12 (And.intro H13 (And.intro q298 (And.intro H297 (And.intro q299 (And.intro q300 (And.intro q301 (And.intro d303 w304))))))))))
    cases g316 : (roomOk 8 (List.length (([] : List Int) ++ [e9.Low])))
    ·simp only [g316, hs] at h
     exact absurd h kN9
    simp only [g316, hs] at h
    simp only [vz, tyf, b315, (ix22 o305), e306, e307, e308, e309, e310, e311, e312, e313, e314, g316, nm, seval]
    refine k_appN (w := 1) (enc := eI) (ys := ([e9.Low])) (el2 := (some 3)) (fun _ => rfl) lf23 ao23 Tryz.underlying23 (by first | rfl | assumption | (simp only [updH_apply, without_apply, et23, b315, nm, seval] <;> rfl) | (simp only [updH_apply, without_apply, cellsL_cons, cellsL_nil, mV_app, mV_app0, tyf, b315, (ix22 o305), e306, e307, e308, e309, e310, e311, e312, e313, e314, g316, nm, seval]; done)) (Nat.zero_lt_succ _) g316 ?_
    cases g317 : (roomOk 8 (List.length (c9_5 ++ [e9.High])))
    ·simp only [g317, hs] at h
     exact absurd h kN9
    simp only [g317, hs] at h
    simp only [vz, tyf, b315, (ix22 o305), e306, e307, e308, e309, e310, e311, e312, e313, e314, g316, g317, nm, seval]
    refine k_app (w := 1) (enc := eI) (xs := c9_5) (ys := ([e9.High])) (el := el9_1) (el2 := (some 3)) (fun _ => rfl) lf23 ao23 Tryz.underlying23 (by first | rfl | assumption | (simp only [updH_apply, without_apply, et23, b315, nm, seval] <;> rfl) | (simp only [updH_apply, without_apply, cellsL_cons, cellsL_nil, mV_app, mV_app0, tyf, b315, (ix22 o305), e306, e307, e308, e309, e310, e311, e312, e313, e314, g316, g317, nm, seval]; done)) (by first | rfl | assumption | (simp only [updH_apply, without_apply, et23, b315, nm, seval] <;> rfl) | (simp only [updH_apply, without_apply, cellsL_cons, cellsL_nil, mV_app, mV_app0, tyf, b315, (ix22 o305), e306, e307, e308, e309, e310, e311, e312, e313, e314, g316, g317, nm, seval]; done)) (Nat.zero_lt_succ _) g317 ?_
    simp only [vz, tyf, b315, (ix22 o305), e306, e307, e308, e309, e310, e311, e312, e313, e314, g316, g317, nm, seval]
    refine drawK_nil ⟨?_, ?_⟩
    ·simp only [traceR_cons, traceR_nil, hitK_quiet, hitK_nil, and_true, true_and]
     repeat' (first | exact trivial | refine And.intro ?_ ?_ | rw [hitK_quiet] | rw [hitK_cons] | exact Or.inl (by decide +kernel) | exact Or.inl (by dsimp only; decide +kernel) | (refine Or.inr ⟨?_, ?_⟩ <;> simp; done) | (refine Or.inr ⟨?_, ?_⟩ <;> simp <;> omega) | (refine Or.inr ⟨?_, ?_⟩ <;> simp [VEff.wr] <;> omega))
    simp only [vz, tyf, b315, (ix22 o305), e306, e307, e308, e309, e310, e311, e312, e313, e314, g316, g317, nm, seval]
    exact ⟨List.length p9, Nat.lt_succ_self _, by rw [hI9]; refine ⟨p9, c9_14 + 1, (([] : List Int) ++ [e9.Low]), (c9_5 ++ [e9.High]), .ref (nx9 + 9) 0 (List.length (([] : List Int) ++ [e9.Low])) 1 (List.length (([] : List Int) ++ [e9.Low])), .ref (nx9 + 14) 0 (List.length (c9_5 ++ [e9.High])) 1 (List.length (c9_5 ++ [e9.High])), rfl, Int.le_trans hi9 (Int.le_add_one (Int.le_refl _)), drop_next hi9 hp9, rfl, (show 12 ≤ nx9 + 19 by omega), ?_, ?_, ?_, e306, e307, e308, e312, e313, ?_, ?_, ?_, Or.inl ⟨nx9 + 9, (some 3), rfl, (by first | omega | (simp only [nm, seval]; omega)), (by first | omega | (intro hh; simp only [b315, reduceCtorEq] at hh)), (by first | omega | (intro hh; simp only [b315, reduceCtorEq] at hh)), (by first | omega | (intro hh; simp only [b315, reduceCtorEq] at hh)), ?_⟩, Or.inl ⟨nx9 + 14, (sameEl el9_1 3), rfl, (by first | omega | (simp only [nm, seval]; omega)), (by first | omega | (intro hh; simp only [b315, reduceCtorEq] at hh)), (by first | omega | (intro hh; simp only [b315, reduceCtorEq] at hh)), (by first | omega | (intro hh; simp only [b315, reduceCtorEq] at hh)), ?_⟩, (by first | trivial | (show _ ≠ _; first | omega | (intro hh; simp only [b315, reduceCtorEq] at hh))), h⟩ <;> first | (simp only [ua, b315, e306, e307, e308, e309, e310, e311, e312, e313, e314, nm, seval] <;> rfl) | rfl⟩
  ·cases p9 with
   | nil =>
    have d318 : (decide (c9_14 < (List.length x0_s.Dry : Int))) = false := not_lt_of_drop hi9 hp9
    simp only [g_coat_summed_l0, hs, reduceCtorEq] at h
    replace h := kG9 _ h
    try dsimp only at h
    try simp only [hs] at h
    simp only [neB_nil, hs] at h
    exact absurd h kN
   | cons e9 p9 =>
    have d319 : (decide (c9_14 < (List.length x0_s.Dry : Int))) = true := lt_of_drop hi9 hp9
    have o321 := getI_of_drop hi9 hp9
    have w320 := wrap_next hi9 hp9 g10
    simp only [g_coat_summed_l0, hs, reduceCtorEq] at h
    simp only [vz, tyf, g10, n22, e14, e15, e16, e17, e18, e19, e20, e21, H11, H12, H13, d319, (ix22 o321), w320, nm, seval]
    refine cwp_drawTF (fun tm => tm 1 = .ptr 0 0 ∧ tm 2 = .ptr 1 0 ∧ tm 3 = .ptr 4 0 ∧ tm 4 = .lit (.slice none 0 0) ∧ tm 5 = .lit (.slice none 0 0) ∧ tm 7 = .ptr (nx9 + 3) 0 ∧ tm 12 = .sl (cellsL cGSpan x0_s.Dry) (List.length x0_s.Dry) false ∧ tm 13 = .lit (.int .i64 (List.length x0_s.Dry : Int)) ∧ tm 14 = .lit (.int .i64 c9_14) ∧ True) (by refine ⟨e14, e15, e16, e19, e20, ?_, e17, e18, e21, trivial⟩ <;> first | (simp only [ua, n22, e14, e15, e16, e17, e18, e19, e20, e21, H11, H12, H13, d319, w320, nm, seval] <;> rfl) | rfl) ?_
    rintro tm ⟨e322, e323, e324, e325, e326, e327, e328, e329, e330, _⟩
    have b331 := And.intro g10 (And.intro n22 (And.intro H11 (And.intro H12 (And.intro H13 (And.intro d319 w320)))))
    cases g332 : (roomOk 8 (List.length (([] : List Int) ++ [e9.Low])))
    ·simp only [g332, hs] at h
     exact absurd h kN9
    simp only [g332, hs] at h
    simp only [vz, tyf, b331, (ix22 o321), e322, e323, e324, e325, e326, e327, e328, e329, e330, g332, nm, seval]
    refine k_appN (w := 1) (enc := eI) (ys := ([e9.Low])) (el2 := (some 3)) (fun _ => rfl) lf23 ao23 Tryz.underlying23 (by first | rfl | assumption | (simp only [updH_apply, without_apply, et23, b331, nm, seval] <;> rfl) | (simp only [updH_apply, without_apply, cellsL_cons, cellsL_nil, mV_app, mV_app0, tyf, b331, (ix22 o321), e322, e323, e324, e325, e326, e327, e328, e329, e330, g332, nm, seval]; done)) (Nat.zero_lt_succ _) g332 ?_
    cases g333 : (roomOk 8 (List.length (([] : List Int) ++ [e9.High])))
    ·simp only [g333, hs] at h
     exact absurd h kN9
    simp only [g333, hs] at h
    simp only [vz, tyf, b331, (ix22 o321), e322, e323, e324, e325, e326, e327, e328, e329, e330, g332, g333, nm, seval]
    refine k_appN (w := 1) (enc := eI) (ys := ([e9.High])) (el2 := (some 3)) (fun _ => rfl) lf23 ao23 Tryz.underlying23 (by first | rfl | assumption | (simp only [updH_apply, without_apply, et23, b331, nm, seval] <;> rfl) | (simp only [updH_apply, without_apply, cellsL_cons, cellsL_nil, mV_app, mV_app0, tyf, b331, (ix22 o321), e322, e323, e324, e325, e326, e327, e328, e329, e330, g332, g333, nm, seval]; done)) (Nat.zero_lt_succ _) g333 ?_
    simp only [vz, tyf, b331, (ix22 o321), e322, e323, e324, e325, e326, e327, e328, e329, e330, g332, g333, nm, seval]
    refine drawK_nil ⟨?_, ?_⟩
    ·simp only [traceR_cons, traceR_nil, hitK_quiet, hitK_nil, and_true, true_and]
     repeat' (first | exact trivial | refine And.intro ?_ ?_ | rw [hitK_quiet] | rw [hitK_cons] | exact Or.inl (by decide +kernel) | exact Or.inl (by dsimp only; decide +kernel) | (refine Or.inr ⟨?_, ?_⟩ <;> simp; done) | (refine Or.inr ⟨?_, ?_⟩ <;> simp <;> omega) | (refine Or.inr ⟨?_, ?_⟩ <;> simp [VEff.wr] <;> omega))
    simp only [vz, tyf, b331, (ix22 o321), e322, e323, e324, e325, e326, e327, e328, e329, e330, g332, g333, nm, seval]
    exact ⟨List.length p9, Nat.lt_succ_self _, by rw [hI9]; refine ⟨p9, c9_14 + 1, (([] : List Int) ++ [e9.Low]), (([] : List Int) ++ [e9.High]), .ref (nx9 + 9) 0 (List.length (([] : List Int) ++ [e9.Low])) 1 (List.length (([] : List Int) ++ [e9.Low])), .ref (nx9 + 14) 0 (List.length (([] : List Int) ++ [e9.High])) 1 (List.length (([] : List Int) ++ [e9.High])), rfl, Int.le_trans hi9 (Int.le_add_one (Int.le_refl _)), drop_next hi9 hp9, rfl, (show 12 ≤ nx9 + 19 by omega), ?_, ?_, ?_, e322, e323, e324, e328, e329, ?_, ?_, ?_, Or.inl ⟨nx9 + 9, (some 3), rfl, (by first | omega | (simp only [nm, seval]; omega)), (by first | omega | (intro hh; simp only [b331, reduceCtorEq] at hh)), (by first | omega | (intro hh; simp only [b331, reduceCtorEq] at hh)), (by first | omega | (intro hh; simp only [b331, reduceCtorEq] at hh)), ?_⟩, Or.inl ⟨nx9 + 14, (some 3), rfl, (by first | omega | (simp only [nm, seval]; omega)), (by first | omega | (intro hh; simp only [b331, reduceCtorEq] at hh)), (by first | omega | (intro hh; simp only [b331, reduceCtorEq] at hh)), (by first | omega | (intro hh; simp only [b331, reduceCtorEq] at hh)), ?_⟩, (by first | trivial | (show _ ≠ _; first | omega | (intro hh; simp only [b331, reduceCtorEq] at hh))), h⟩ <;> first | (simp only [ua, b331, e322, e323, e324, e325, e326, e327, e328, e329, e330, nm, seval] <;> rfl) | rfl⟩
end Go.V
end
