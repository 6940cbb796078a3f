/- Part of the proof of statements of YtbpeickbdiihcaaGreatDoor: a logic of values by content, the lifted functions, and what follows. -/
import Derived.Test.YtbpeickbdiihcaaGreatDoorMbd
import Derived.Test.YtbpeickbdiihcaaGreatDoorMbf
import Derived.Test.YtbpeickbdiihcaaGreatDoorMbg
set_option linter.unusedVariables false
set_option linter.unusedSimpArgs false
set_option linter.unusedSectionVars false
set_option linter.constructorNameAsVariable false
section
namespace Go.V
open Go Go.Proofs
set_option linter.unusedSimpArgs false
set_option linter.unusedVariables false
set_option maxRecDepth 4000
set_option maxHeartbeats 4000000
def g_sight_Check (x0_s : GSightStreet) : Option (Int) := Option.bind (g_sight_isStreet x0_s) (fun r1 => cond (r1) (some 0) (some 2))
theorem g_sight_Check_ok (x0_s : GSightStreet) (R : Int) (h : g_sight_Check x0_s = some R) : VPure Tryz.prog G0 17 [.agg (cGSightStreet x0_s)] (.tree (.lit (.int .i64 R))) := by
 refine VPure.runR mixed Tryz.call17 Tryz.func17 rfl (by simp [Tryz.ntmps17]; kernel_rfl) ?_
 obtain ⟨KF, h, kF, kN⟩ := fun_intro h
 simp only [g_sight_Check] at h
 cases o3 : (g_sight_isStreet x0_s) with
 | none =>
  simp only [o3, hs, reduceCtorEq] at h
  exact absurd h kN
 | some r2 =>
  simp only [o3, hs, reduceCtorEq] at h
  simp only [vz, tyf, nmB, implies_true, seval]
  refine ktree (args0 := [.agg (cGSightStreet x0_s)]) (by first | (simp only [nrm, tynrm] <;> rfl) | rfl) (by simp only [tre, tytre, Bool.and_self]) (g_sight_isStreet_ok _ _ o3) ?_
  refine fin_cut (fun tm => tm 4 = .lit (.bool r2) ∧ True) (by refine ⟨?_, trivial⟩ <;> first | (simp only [upd_apply, updH_apply, without_apply, mV_app, mV_app0, nmB, implies_true, seval] <;> rfl) | rfl) ?_
  rintro tm ⟨e4, _⟩
  cases d5 : (r2)
  ·simp only [d5, hs, reduceCtorEq] at h
   simp only [vz, tyf, e4, d5, nmB, implies_true, seval]
   refine opd_ret (x := (.lit (.int .i64 2))) (by first | (simp only [Tryz.results17, resV, resL, resV1, tgt_ptr, tgt_tp, upd_apply, updH_apply, without_apply, cr, tyf, e4, d5, nmB, implies_true, seval] <;> rfl) | rfl) ?_
   obtain rfl := kF _ h
   refine rr_tree ?_ ?_
   ·simp only [tre, tytre, Bool.and_self]
   ·first | (simp only [outV, upd_apply, updH_apply, without_apply, showV_ref, cr, tyf, nrm, tynrm, e4, d5, nmB, implies_true, seval] <;> rfl) | rfl
  ·simp only [d5, hs, reduceCtorEq] at h
   simp only [vz, tyf, e4, d5, nmB, implies_true, seval]
   refine opd_ret (x := (.lit (.int .i64 0))) (by first | (simp only [Tryz.results17, resV, resL, resV1, tgt_ptr, tgt_tp, upd_apply, updH_apply, without_apply, cr, tyf, e4, d5, nmB, implies_true, seval] <;> rfl) | rfl) ?_
   obtain rfl := kF _ h
   refine rr_tree ?_ ?_
   ·simp only [tre, tytre, Bool.and_self]
   ·first | (simp only [outV, upd_apply, updH_apply, without_apply, showV_ref, cr, tyf, nrm, tynrm, e4, d5, nmB, implies_true, seval] <;> rfl) | rfl
end Go.V
end
section
namespace Go.V
open Go Go.Proofs
set_option linter.unusedSimpArgs false
set_option linter.unusedVariables false
set_option maxRecDepth 4000
set_option maxHeartbeats 4000000
def g_ref02_in (x0_n : Int) (x1_low : Int) (x2_high : Int) : Option (Bool) := cond (decide (x0_n ≥ x1_low)) (some (decide (x0_n ≤ x2_high))) (some false)
theorem g_ref02_in_ok (x0_n : Int) (x1_low : Int) (x2_high : Int) (R : Bool) (h : g_ref02_in x0_n x1_low x2_high = some R) : VPure Tryz.prog G0 58 [.lit (.int .i64 x0_n), .lit (.int .i64 x1_low), .lit (.int .i64 x2_high)] (.tree (.lit (.bool R))) := by
 refine VPure.runR mixed Tryz.call58 Tryz.func58 rfl (by simp [Tryz.ntmps58]; kernel_rfl) ?_
 obtain ⟨KF, h, kF, kN⟩ := fun_intro h
 simp only [g_ref02_in] at h
 cases d1 : (decide (x0_n ≥ x1_low))
 ·simp only [d1, hs, reduceCtorEq] at h
  simp only [vz, tyf, d1, nmB, implies_true, seval]
  refine opd_ret (x := (.lit (.bool false))) (by first | (simp only [Tryz.results58, resV, resL, resV1, tgt_ptr, tgt_tp, upd_apply, updH_apply, without_apply, cr, tyf, d1, nmB, implies_true, seval] <;> rfl) | rfl) ?_
  obtain rfl := kF _ h
  refine rr_tree ?_ ?_
  ·simp only [tre, tytre, Bool.and_self]
  ·first | (simp only [outV, upd_apply, updH_apply, without_apply, showV_ref, cr, tyf, nrm, tynrm, d1, nmB, implies_true, seval] <;> rfl) | rfl
 ·simp only [d1, hs, reduceCtorEq] at h
  simp only [vz, tyf, d1, nmB, implies_true, seval]
  refine opd_ret (x := (.lit (.bool (decide (x0_n ≤ x2_high))))) (by first | (simp only [Tryz.results58, resV, resL, resV1, tgt_ptr, tgt_tp, upd_apply, updH_apply, without_apply, cr, tyf, d1, nmB, implies_true, seval] <;> rfl) | rfl) ?_
  obtain rfl := kF _ h
  refine rr_tree ?_ ?_
  ·simp only [tre, tytre, Bool.and_self]
  ·first | (simp only [outV, upd_apply, updH_apply, without_apply, showV_ref, cr, tyf, nrm, tynrm, d1, nmB, implies_true, seval] <;> rfl) | rfl
end Go.V
end
section
namespace Go.V
open Go Go.Proofs
set_option linter.unusedSimpArgs false
set_option linter.unusedVariables false
set_option maxRecDepth 4000
set_option maxHeartbeats 4000000
def g_ref02_span (x0_s : GSpan) (x1_low : Int) (x2_high : Int) : Option (Bool) := Option.bind (g_ref02_in x0_s.Low x1_low x2_high) (fun r1 => cond (r1) (Option.bind (g_ref02_in x0_s.High x0_s.Low x2_high) (fun r2 => some r2)) (some false))
theorem g_ref02_span_ok (x0_s : GSpan) (x1_low : Int) (x2_high : Int) (R : Bool) (h : g_ref02_span x0_s x1_low x2_high = some R) : VPure Tryz.prog G0 59 [.agg (cGSpan x0_s), .lit (.int .i64 x1_low), .lit (.int .i64 x2_high)] (.tree (.lit (.bool R))) := by
 refine VPure.runR mixed Tryz.call59 Tryz.func59 rfl (by simp [Tryz.ntmps59]; kernel_rfl) ?_
 obtain ⟨KF, h, kF, kN⟩ := fun_intro h
 simp only [g_ref02_span] at h
 cases o4 : (g_ref02_in x0_s.Low x1_low x2_high) with
 | none =>
  simp only [o4, hs, reduceCtorEq] at h
  exact absurd h kN
 | some r3 =>
  simp only [o4, hs, reduceCtorEq] at h
  simp only [vz, tyf, nmB, implies_true, seval]
  refine ktree (args0 := [.lit (.int .i64 x0_s.Low), .lit (.int .i64 x1_low), .lit (.int .i64 x2_high)]) (by first | (simp only [nrm, tynrm] <;> rfl) | rfl) (by simp only [tre, tytre, Bool.and_self]) (g_ref02_in_ok _ _ _ _ o4) ?_
  refine fin_cut (fun tm => tm 2 = .lit (.int .i64 x2_high) ∧ tm 3 = .ptr 0 0 ∧ tm 11 = .lit (.bool r3) ∧ True) (by refine ⟨?_, ?_, ?_, trivial⟩ <;> first | (simp only [upd_apply, updH_apply, without_apply, mV_app, mV_app0, nmB, implies_true, seval] <;> rfl) | rfl) ?_
  rintro tm ⟨e5, e6, e7, _⟩
  cases d8 : (r3)
  ·simp only [d8, hs, reduceCtorEq] at h
   simp only [vz, tyf, e5, e6, e7, d8, nmB, implies_true, seval]
   refine opd_ret (x := (.lit (.bool false))) (by first | (simp only [Tryz.results59, resV, resL, resV1, tgt_ptr, tgt_tp, upd_apply, updH_apply, without_apply, cr, tyf, e5, e6, e7, d8, nmB, implies_true, seval] <;> rfl) | rfl) ?_
   obtain rfl := kF _ h
   refine rr_tree ?_ ?_
   ·simp only [tre, tytre, Bool.and_self]
   ·first | (simp only [outV, upd_apply, updH_apply, without_apply, showV_ref, cr, tyf, nrm, tynrm, e5, e6, e7, d8, nmB, implies_true, seval] <;> rfl) | rfl
  ·simp only [d8, hs, reduceCtorEq] at h
   cases o10 : (g_ref02_in x0_s.High x0_s.Low x2_high) with
   | none =>
    simp only [o10, hs, reduceCtorEq] at h
    exact absurd h kN
   | some r9 =>
    simp only [o10, hs, reduceCtorEq] at h
    simp only [vz, tyf, e5, e6, e7, d8, nmB, implies_true, seval]
    refine ktree (args0 := [.lit (.int .i64 x0_s.High), .lit (.int .i64 x0_s.Low), .lit (.int .i64 x2_high)]) (by first | (simp only [nrm, tynrm] <;> rfl) | rfl) (by simp only [tre, tytre, Bool.and_self]) (g_ref02_in_ok _ _ _ _ o10) ?_
    refine fin_cut (fun tm => tm 12 = .lit (.bool true) ∧ tm 18 = .lit (.bool r9) ∧ True) (by refine ⟨?_, ?_, trivial⟩ <;> first | (simp only [upd_apply, updH_apply, without_apply, mV_app, mV_app0, e5, e6, e7, d8, nmB, implies_true, seval] <;> rfl) | rfl) ?_
    rintro tm ⟨e11, e12, _⟩
    simp only [vz, tyf, d8, e11, e12, nmB, implies_true, seval]
    refine opd_ret (x := (.lit (.bool r9))) (by first | (simp only [Tryz.results59, resV, resL, resV1, tgt_ptr, tgt_tp, upd_apply, updH_apply, without_apply, cr, tyf, d8, e11, e12, nmB, implies_true, seval] <;> rfl) | rfl) ?_
    obtain rfl := kF _ h
    refine rr_tree ?_ ?_
    ·simp only [tre, tytre, Bool.and_self]
    ·first | (simp only [outV, upd_apply, updH_apply, without_apply, showV_ref, cr, tyf, nrm, tynrm, d8, e11, e12, nmB, implies_true, seval] <;> rfl) | rfl
end Go.V
end
section
namespace Go.V
open Go Go.Proofs
set_option linter.unusedSimpArgs false
set_option linter.unusedVariables false
set_option maxRecDepth 4000
set_option maxHeartbeats 4000000
def g_ref02_board_l0  : List GSightLetter → Int → Option (LOut (Bool) (Unit))
 | [], c0_6 => some (.go ())
 | e0 :: p0, c0_6 => Option.bind (g_ref02_in e0.Height 1 30) (fun r4 => cond (r4) (Option.bind (g_ref02_in e0.Width 1 30) (fun r5 => cond (r5) (Option.bind (g_ref02_in e0.Stroke 1 10) (fun r6 => cond (r6) (Option.bind (g_ref02_in e0.Space 0 20) (fun r7 => cond (r7) (g_ref02_board_l0 p0 (c0_6 + 1)) (some (.ret false)))) (some (.ret false)))) (some (.ret false)))) (some (.ret false)))
def g_ref02_board (x0_b : GSightBoard) (x1_length : Int) : Option (Bool) := Option.bind (g_ref02_in x0_b.At 0 x1_length) (fun r1 => cond (r1) (Option.bind (g_ref02_in (List.length x0_b.Letters : Int) 1 5) (fun r2 => cond (r2) (Option.bind (getI x0_b.Letters (IntKind.i64.wrap ((List.length x0_b.Letters : Int) - 1))) (fun x3 => cond (x3.Space != 0) (some false) (cond (lenOk x0_b.Letters) (lbind (g_ref02_board_l0 x0_b.Letters 0) (fun r9 => some r9) (fun c8 => some true) (fun _ _ => none)) none))) (some false))) (some false))
theorem g_ref02_board_ok (x0_b : GSightBoard) (x1_length : Int) (R : Bool) (h : g_ref02_board x0_b x1_length = some R) : VPure Tryz.prog G0 60 [.agg (cGSightBoard x0_b), .lit (.int .i64 x1_length)] (.tree (.lit (.bool R))) := by
 refine VPure.runR mixed Tryz.call60 Tryz.func60 rfl (by simp [Tryz.ntmps60]; kernel_rfl) ?_
 obtain ⟨KF, h, kF, kN⟩ := fun_intro h
 simp only [g_ref02_board] at h
 cases o11 : (g_ref02_in x0_b.At 0 x1_length) with
 | none =>
  simp only [o11, hs, reduceCtorEq] at h
  exact absurd h kN
 | some r10 =>
  simp only [o11, hs, reduceCtorEq] at h
  simp only [vz, tyf, nmB, implies_true, seval]
  refine ktree (args0 := [.lit (.int .i64 x0_b.At), .lit (.int .i64 0), .lit (.int .i64 x1_length)]) (by first | (simp only [nrm, tynrm] <;> rfl) | rfl) (by simp only [tre, tytre, Bool.and_self]) (g_ref02_in_ok _ _ _ _ o11) ?_
  refine fin_cut (fun tm => tm 2 = .ptr 0 0 ∧ tm 5 = .lit (.int .i64 (List.length x0_b.Letters : Int)) ∧ tm 14 = .lit (.bool r10) ∧ True) (by refine ⟨?_, ?_, ?_, trivial⟩ <;> first | (simp only [upd_apply, updH_apply, without_apply, mV_app, mV_app0, nmB, implies_true, seval] <;> rfl) | rfl) ?_
  rintro tm ⟨e12, e13, e14, _⟩
  cases d15 : (r10)
  ·simp only [d15, hs, reduceCtorEq] at h
   simp only [vz, tyf, e12, e13, e14, d15, nmB, implies_true, seval]
   refine opd_ret (x := (.lit (.bool false))) (by first | (simp only [Tryz.results60, resV, resL, resV1, tgt_ptr, tgt_tp, upd_apply, updH_apply, without_apply, cr, tyf, e12, e13, e14, d15, nmB, implies_true, seval] <;> rfl) | rfl) ?_
   obtain rfl := kF _ h
   refine rr_tree ?_ ?_
   ·simp only [tre, tytre, Bool.and_self]
   ·first | (simp only [outV, upd_apply, updH_apply, without_apply, showV_ref, cr, tyf, nrm, tynrm, e12, e13, e14, d15, nmB, implies_true, seval] <;> rfl) | rfl
  ·simp only [d15, hs, reduceCtorEq] at h
   cases o17 : (g_ref02_in (List.length x0_b.Letters : Int) 1 5) with
   | none =>
    simp only [o17, hs, reduceCtorEq] at h
    exact absurd h kN
   | some r16 =>
    simp only [o17, hs, reduceCtorEq] at h
    simp only [vz, tyf, e12, e13, e14, d15, nmB, implies_true, seval]
    refine ktree (args0 := [.lit (.int .i64 (List.length x0_b.Letters : Int)), .lit (.int .i64 1), .lit (.int .i64 5)]) (by first | (simp only [nrm, tynrm] <;> rfl) | rfl) (by simp only [tre, tytre, Bool.and_self]) (g_ref02_in_ok _ _ _ _ o17) ?_
    refine fin_cut (fun tm => tm 2 = .ptr 0 0 ∧ tm 5 = .lit (.int .i64 (List.length x0_b.Letters : Int)) ∧ tm 16 = .lit (.bool false) ∧ tm 18 = .lit (.bool r16) ∧ True) (by refine ⟨e12, e13, ?_, ?_, trivial⟩ <;> first | (simp only [upd_apply, updH_apply, without_apply, mV_app, mV_app0, e12, e13, e14, d15, nmB, implies_true, seval] <;> rfl) | rfl) ?_
    rintro tm ⟨e18, e19, e20, e21, _⟩
    cases d22 : (r16)
    ·simp only [d22, hs, reduceCtorEq] at h
     simp only [vz, tyf, d15, e18, e19, e20, e21, d22, nmB, implies_true, seval]
     refine opd_ret (x := (.lit (.bool false))) (by first | (simp only [Tryz.results60, resV, resL, resV1, tgt_ptr, tgt_tp, upd_apply, updH_apply, without_apply, cr, tyf, d15, e18, e19, e20, e21, d22, nmB, implies_true, seval] <;> rfl) | rfl) ?_
     obtain rfl := kF _ h
     refine rr_tree ?_ ?_
     ·simp only [tre, tytre, Bool.and_self]
     ·first | (simp only [outV, upd_apply, updH_apply, without_apply, showV_ref, cr, tyf, nrm, tynrm, d15, e18, e19, e20, e21, d22, nmB, implies_true, seval] <;> rfl) | rfl
    ·simp only [d22, hs, reduceCtorEq] at h
     cases o24 : (getI x0_b.Letters (IntKind.i64.wrap ((List.length x0_b.Letters : Int) - 1))) with
     | none =>
      simp only [o24, hs, reduceCtorEq] at h
      exact absurd h kN
     | some x23 =>
      simp only [o24, hs, reduceCtorEq] at h
      cases d25 : (x23.Space != 0)
      ·simp only [d25, hs, reduceCtorEq] at h
       cases g27 : (lenOk x0_b.Letters)
       ·simp only [g27, hs, reduceCtorEq] at h
        exact absurd h kN
       simp only [g27, hs, reduceCtorEq] at h
       simp only [vz, tyf, d15, e18, e19, e20, e21, d22, (ix40 o24), d25, g27, nmB, implies_true, seval]
       obtain ⟨K26, h, kR26, kG26, kB26, kN26⟩ := lbind_intro h kN
       obtain ⟨f26, hf26, h⟩ := call2 h
       obtain ⟨I26, hI26⟩ : ∃ I : Nat → St → Prop, I = (fun m st => ∃ (p26 : List GSightLetter) (c26_6 : Int), m = List.length p26 ∧ 0 ≤ c26_6 ∧ List.drop (Int.toNat c26_6) x0_b.Letters = p26 ∧ st.df = [] ∧ 27 ≤ st.nx ∧ st.H 0 = some (.cells (some 42) (cGSightBoard x0_b)) ∧ st.tm 2 = .ptr 0 0 ∧ st.tm 5 = .lit (.int .i64 (List.length x0_b.Letters : Int)) ∧ st.tm 6 = .lit (.int .i64 c26_6) ∧ K26 (f26 p26 c26_6)) := ⟨_, rfl⟩
       refine loopK mixed (by kernel_rfl) I26 (List.length x0_b.Letters) (by rw [hI26]; refine ⟨x0_b.Letters, 0, rfl, Int.le_refl _, rfl, rfl, (show 27 ≤ 27 by omega), ?_, e18, e19, ?_, h⟩ <;> first | (simp only [upd_apply, updH_apply, without_apply, mV_app, mV_app0, d15, e18, e19, e20, e21, d22, d25, nmB, implies_true, seval] <;> rfl) | rfl) ?_
       rintro m ⟨tm, H, nx26, df⟩ hinv
       rw [hI26] at hinv
       obtain ⟨p26, c26_6, rfl, hi26, hp26, hdf, hn26, H28, e29, e30, e31, h⟩ := hinv
       simp only at hdf hn26 H28 e29 e30 e31
       have n32 := base_ne0 (m := 27) (b := nx26) (by omega)
       subst hdf hf26
       cases p26 with
       | nil =>
        have d33 : (decide (c26_6 < (List.length x0_b.Letters : Int))) = false := not_lt_of_drop hi26 hp26
        simp only [g_ref02_board_l0, hs, reduceCtorEq] at h
        replace h := kG26 _ h
        try dsimp only at h
        try simp only [hs] at h
        simp only [vz, tyf, d15, d22, (ix40 o24), d25, g27, n32, e29, e30, e31, H28, d33, nmB, implies_true, seval]
        refine opd_ret (x := (.lit (.bool true))) (by first | (simp only [Tryz.results60, resV, resL, resV1, tgt_ptr, tgt_tp, upd_apply, updH_apply, without_apply, cr, tyf, d15, d22, (ix40 o24), d25, g27, n32, e29, e30, e31, H28, d33, nmB, implies_true, seval] <;> rfl) | rfl) ?_
        obtain rfl := kF _ h
        refine rr_tree ?_ ?_
        ·simp only [tre, tytre, Bool.and_self]
        ·first | (simp only [outV, upd_apply, updH_apply, without_apply, showV_ref, cr, tyf, nrm, tynrm, d15, d22, (ix40 o24), d25, g27, n32, e29, e30, e31, H28, d33, nmB, implies_true, seval] <;> rfl) | rfl
       | cons e26 p26 =>
        have d34 : (decide (c26_6 < (List.length x0_b.Letters : Int))) = true := lt_of_drop hi26 hp26
        have o36 := getI_of_drop hi26 hp26
        have w35 := wrap_next hi26 hp26 g27
        simp only [g_ref02_board_l0, hs, reduceCtorEq] at h
        cases o38 : (g_ref02_in e26.Height 1 30) with
        | none =>
         simp only [o38, hs, reduceCtorEq] at h
         exact absurd h kN26
        | some r37 =>
         simp only [o38, hs, reduceCtorEq] at h
         simp only [vz, tyf, d15, d22, (ix40 o24), d25, g27, n32, e29, e30, e31, H28, d34, (ix40 o36), w35, nmB, implies_true, seval]
         refine ktree (args0 := [.lit (.int .i64 e26.Height), .lit (.int .i64 1), .lit (.int .i64 30)]) (by first | (simp only [nrm, tynrm] <;> rfl) | rfl) (by simp only [tre, tytre, Bool.and_self]) (g_ref02_in_ok _ _ _ _ o38) ?_
         refine fin_cut (fun tm => tm 2 = .ptr 0 0 ∧ tm 5 = .lit (.int .i64 (List.length x0_b.Letters : Int)) ∧ tm 6 = .lit (.int .i64 c26_6) ∧ tm 7 = .ptr (nx26 + 8) 0 ∧ tm 43 = .lit (.bool r37) ∧ True) (by refine ⟨e29, e30, e31, ?_, ?_, trivial⟩ <;> first | (simp only [upd_apply, updH_apply, without_apply, mV_app, mV_app0, d15, d22, d25, n32, e29, e30, e31, H28, d34, w35, nmB, implies_true, seval] <;> rfl) | rfl) ?_
         rintro tm ⟨e39, e40, e41, e42, e43, _⟩
         cases d44 : (r37)
         ·simp only [d44, hs, reduceCtorEq] at h
          simp only [vz, tyf, d15, d22, (ix40 o24), d25, g27, n32, H28, d34, (ix40 o36), w35, e39, e40, e41, e42, e43, d44, nmB, implies_true, seval]
          refine opd_ret (x := (.lit (.bool false))) (by first | (simp only [Tryz.results60, resV, resL, resV1, tgt_ptr, tgt_tp, upd_apply, updH_apply, without_apply, cr, tyf, d15, d22, (ix40 o24), d25, g27, n32, H28, d34, (ix40 o36), w35, e39, e40, e41, e42, e43, d44, nmB, implies_true, seval] <;> rfl) | rfl) ?_
          replace h := kR26 _ h
          try dsimp only at h
          obtain rfl := kF _ h
          refine rr_tree ?_ ?_
          ·simp only [tre, tytre, Bool.and_self]
          ·first | (simp only [outV, upd_apply, updH_apply, without_apply, showV_ref, cr, tyf, nrm, tynrm, d15, d22, (ix40 o24), d25, g27, n32, H28, d34, (ix40 o36), w35, e39, e40, e41, e42, e43, d44, nmB, implies_true, seval] <;> rfl) | rfl
         ·simp only [d44, hs, reduceCtorEq] at h
          cases o46 : (g_ref02_in e26.Width 1 30) with
          | none =>
           simp only [o46, hs, reduceCtorEq] at h
           exact absurd h kN26
          | some r45 =>
           simp only [o46, hs, reduceCtorEq] at h
           simp only [vz, tyf, d15, d22, (ix40 o24), d25, g27, n32, H28, d34, (ix40 o36), w35, e39, e40, e41, e42, e43, d44, nmB, implies_true, seval]
           refine ktree (args0 := [.lit (.int .i64 e26.Width), .lit (.int .i64 1), .lit (.int .i64 30)]) (by first | (simp only [nrm, tynrm] <;> rfl) | rfl) (by simp only [tre, tytre, Bool.and_self]) (g_ref02_in_ok _ _ _ _ o46) ?_
           refine fin_cut (fun tm => tm 2 = .ptr 0 0 ∧ tm 5 = .lit (.int .i64 (List.length x0_b.Letters : Int)) ∧ tm 6 = .lit (.int .i64 c26_6) ∧ tm 7 = .ptr (nx26 + 8) 0 ∧ tm 45 = .lit (.bool false) ∧ tm 48 = .lit (.bool r45) ∧ True) (by refine ⟨e39, e40, e41, e42, ?_, ?_, trivial⟩ <;> first | (simp only [upd_apply, updH_apply, without_apply, mV_app, mV_app0, d15, d22, d25, n32, H28, d34, w35, e39, e40, e41, e42, e43, d44, nmB, implies_true, seval] <;> rfl) | rfl) ?_
           rintro tm ⟨e47, e48, e49, e50, e51, e52, _⟩
           cases d53 : (r45)
           ·simp only [d53, hs, reduceCtorEq] at h
            simp only [vz, tyf, d15, d22, (ix40 o24), d25, g27, n32, H28, d34, (ix40 o36), w35, d44, e47, e48, e49, e50, e51, e52, d53, nmB, implies_true, seval]
            refine opd_ret (x := (.lit (.bool false))) (by first | (simp only [Tryz.results60, resV, resL, resV1, tgt_ptr, tgt_tp, upd_apply, updH_apply, without_apply, cr, tyf, d15, d22, (ix40 o24), d25, g27, n32, H28, d34, (ix40 o36), w35, d44, e47, e48, e49, e50, e51, e52, d53, nmB, implies_true, seval] <;> rfl) | rfl) ?_
            replace h := kR26 _ h
            try dsimp only at h
            obtain rfl := kF _ h
            refine rr_tree ?_ ?_
            ·simp only [tre, tytre, Bool.and_self]
            ·first | (simp only [outV, upd_apply, updH_apply, without_apply, showV_ref, cr, tyf, nrm, tynrm, d15, d22, (ix40 o24), d25, g27, n32, H28, d34, (ix40 o36), w35, d44, e47, e48, e49, e50, e51, e52, d53, nmB, implies_true, seval] <;> rfl) | rfl
           ·simp only [d53, hs, reduceCtorEq] at h
            cases o55 : (g_ref02_in e26.Stroke 1 10) with
            | none =>
             simp only [o55, hs, reduceCtorEq] at h
             exact absurd h kN26
            | some r54 =>
             simp only [o55, hs, reduceCtorEq] at h
             simp only [vz, tyf, d15, d22, (ix40 o24), d25, g27, n32, H28, d34, (ix40 o36), w35, d44, e47, e48, e49, e50, e51, e52, d53, nmB, implies_true, seval]
             refine ktree (args0 := [.lit (.int .i64 e26.Stroke), .lit (.int .i64 1), .lit (.int .i64 10)]) (by first | (simp only [nrm, tynrm] <;> rfl) | rfl) (by simp only [tre, tytre, Bool.and_self]) (g_ref02_in_ok _ _ _ _ o55) ?_
             refine fin_cut (fun tm => tm 2 = .ptr 0 0 ∧ tm 5 = .lit (.int .i64 (List.length x0_b.Letters : Int)) ∧ tm 6 = .lit (.int .i64 c26_6) ∧ tm 7 = .ptr (nx26 + 8) 0 ∧ tm 51 = .lit (.bool false) ∧ tm 54 = .lit (.bool r54) ∧ True) (by refine ⟨e47, e48, e49, e50, ?_, ?_, trivial⟩ <;> first | (simp only [upd_apply, updH_apply, without_apply, mV_app, mV_app0, d15, d22, d25, n32, H28, d34, w35, d44, e47, e48, e49, e50, e51, e52, d53, nmB, implies_true, seval] <;> rfl) | rfl) ?_
             rintro tm ⟨e56, e57, e58, e59, e60, e61, _⟩
             cases d62 : (r54)
             ·simp only [d62, hs, reduceCtorEq] at h
              simp only [vz, tyf, d15, d22, (ix40 o24), d25, g27, n32, H28, d34, (ix40 o36), w35, d44, d53, e56, e57, e58, e59, e60, e61, d62, nmB, implies_true, seval]
              refine opd_ret (x := (.lit (.bool false))) (by first | (simp only [Tryz.results60, resV, resL, resV1, tgt_ptr, tgt_tp, upd_apply, updH_apply, without_apply, cr, tyf, d15, d22, (ix40 o24), d25, g27, n32, H28, d34, (ix40 o36), w35, d44, d53, e56, e57, e58, e59, e60, e61, d62, nmB, implies_true, seval] <;> rfl) | rfl) ?_
              replace h := kR26 _ h
              try dsimp only at h
              obtain rfl := kF _ h
              refine rr_tree ?_ ?_
              ·simp only [tre, tytre, Bool.and_self]
              ·first | (simp only [outV, upd_apply, updH_apply, without_apply, showV_ref, cr, tyf, nrm, tynrm, d15, d22, (ix40 o24), d25, g27, n32, H28, d34, (ix40 o36), w35, d44, d53, e56, e57, e58, e59, e60, e61, d62, nmB, implies_true, seval] <;> rfl) | rfl
             ·simp only [d62, hs, reduceCtorEq] at h
              cases o64 : (g_ref02_in e26.Space 0 20) with
              | none =>
               simp only [o64, hs, reduceCtorEq] at h
               exact absurd h kN26
              | some r63 =>
               simp only [o64, hs, reduceCtorEq] at h
               simp only [vz, tyf, d15, d22, (ix40 o24), d25, g27, n32, H28, d34, (ix40 o36), w35, d44, d53, e56, e57, e58, e59, e60, e61, d62, nmB, implies_true, seval]
               refine ktree (args0 := [.lit (.int .i64 e26.Space), .lit (.int .i64 0), .lit (.int .i64 20)]) (by first | (simp only [nrm, tynrm] <;> rfl) | rfl) (by simp only [tre, tytre, Bool.and_self]) (g_ref02_in_ok _ _ _ _ o64) ?_
               refine fin_cut (fun tm => tm 2 = .ptr 0 0 ∧ tm 5 = .lit (.int .i64 (List.length x0_b.Letters : Int)) ∧ tm 6 = .lit (.int .i64 c26_6) ∧ tm 57 = .lit (.bool false) ∧ tm 60 = .lit (.bool r63) ∧ True) (by refine ⟨e56, e57, e58, ?_, ?_, trivial⟩ <;> first | (simp only [upd_apply, updH_apply, without_apply, mV_app, mV_app0, d15, d22, d25, n32, H28, d34, w35, d44, d53, e56, e57, e58, e59, e60, e61, d62, nmB, implies_true, seval] <;> rfl) | rfl) ?_
               rintro tm ⟨e65, e66, e67, e68, e69, _⟩
               cases d70 : (r63)
               ·simp only [d70, hs, reduceCtorEq] at h
                simp only [vz, tyf, d15, d22, (ix40 o24), d25, g27, n32, H28, d34, (ix40 o36), w35, d44, d53, d62, e65, e66, e67, e68, e69, d70, nmB, implies_true, seval]
                refine opd_ret (x := (.lit (.bool false))) (by first | (simp only [Tryz.results60, resV, resL, resV1, tgt_ptr, tgt_tp, upd_apply, updH_apply, without_apply, cr, tyf, d15, d22, (ix40 o24), d25, g27, n32, H28, d34, (ix40 o36), w35, d44, d53, d62, e65, e66, e67, e68, e69, d70, nmB, implies_true, seval] <;> rfl) | rfl) ?_
                replace h := kR26 _ h
                try dsimp only at h
                obtain rfl := kF _ h
                refine rr_tree ?_ ?_
                ·simp only [tre, tytre, Bool.and_self]
                ·first | (simp only [outV, upd_apply, updH_apply, without_apply, showV_ref, cr, tyf, nrm, tynrm, d15, d22, (ix40 o24), d25, g27, n32, H28, d34, (ix40 o36), w35, d44, d53, d62, e65, e66, e67, e68, e69, d70, nmB, implies_true, seval] <;> rfl) | rfl
               ·simp only [d70, hs, reduceCtorEq] at h
                simp only [vz, tyf, d15, d22, (ix40 o24), d25, g27, n32, H28, d34, (ix40 o36), w35, d44, d53, d62, e65, e66, e67, e68, e69, d70, nmB, implies_true, seval]
                exact ⟨List.length p26, Nat.lt_succ_self _, by rw [hI26]; refine ⟨p26, c26_6 + 1, rfl, Int.le_trans hi26 (Int.le_add_one (Int.le_refl _)), drop_next hi26 hp26, rfl, (show 27 ≤ nx26 + 35 by omega), ?_, e65, e66, ?_, h⟩ <;> first | (simp only [upd_apply, updH_apply, without_apply, mV_app, mV_app0, d15, d22, d25, n32, H28, d34, w35, d44, d53, d62, e65, e66, e67, e68, e69, d70, nmB, implies_true, seval] <;> rfl) | rfl⟩
      ·simp only [d25, hs, reduceCtorEq] at h
       simp only [vz, tyf, d15, e18, e19, e20, e21, d22, (ix40 o24), d25, nmB, implies_true, seval]
       refine opd_ret (x := (.lit (.bool false))) (by first | (simp only [Tryz.results60, resV, resL, resV1, tgt_ptr, tgt_tp, upd_apply, updH_apply, without_apply, cr, tyf, d15, e18, e19, e20, e21, d22, (ix40 o24), d25, nmB, implies_true, seval] <;> rfl) | rfl) ?_
       obtain rfl := kF _ h
       refine rr_tree ?_ ?_
       ·simp only [tre, tytre, Bool.and_self]
       ·first | (simp only [outV, upd_apply, updH_apply, without_apply, showV_ref, cr, tyf, nrm, tynrm, d15, e18, e19, e20, e21, d22, (ix40 o24), d25, nmB, implies_true, seval] <;> rfl) | rfl
end Go.V
end
section
namespace Go.V
open Go Go.Proofs
set_option linter.unusedSimpArgs false
set_option linter.unusedVariables false
set_option maxRecDepth 4000
set_option maxHeartbeats 4000000
def g_ref02_Street_l1 (x0_s : GSightStreet) : List GSightBlock → Int → Option (LOut (Bool) (Unit))
 | [], c1_4 => some (.go ())
 | e1 :: p1, c1_4 => Option.bind (g_ref02_span e1.Along 0 x0_s.Length) (fun r8 => cond (r8) (Option.bind (g_ref02_span e1.Across 1 x0_s.Width) (fun r9 => cond (r9) (g_ref02_Street_l1 x0_s p1 (c1_4 + 1)) (some (.ret false)))) (some (.ret false)))
def g_ref02_Street_l0 (x0_s : GSightStreet) : List GSightBoard → Int → Option (LOut (Bool) (Unit))
 | [], c0_3 => some (.go ())
 | e0 :: p0, c0_3 => Option.bind (g_ref02_board e0 x0_s.Length) (fun r6 => cond (r6) (g_ref02_Street_l0 x0_s p0 (c0_3 + 1)) (some (.ret false)))
def g_ref02_Street (x0_s : GSightStreet) : Option (Bool) := Option.bind (g_ref02_in x0_s.Length 1 40) (fun r1 => cond (r1) (Option.bind (g_ref02_in x0_s.Width 1 12) (fun r2 => cond (r2) (Option.bind (g_ref02_span x0_s.Eye 1 40) (fun r3 => cond (r3) (Option.bind (g_ref02_span x0_s.Light 1 100) (fun r4 => cond (r4) (Option.bind (g_ref02_in (List.length x0_s.Boards : Int) 1 3) (fun r5 => cond (r5) (cond (decide ((List.length x0_s.Blocks : Int) > 4)) (some false) (cond (lenOk x0_s.Boards) (lbind (g_ref02_Street_l0 x0_s x0_s.Boards 0) (fun r12 => some r12) (fun c7 => cond (lenOk x0_s.Blocks) (lbind (g_ref02_Street_l1 x0_s x0_s.Blocks 0) (fun r11 => some r11) (fun c10 => some true) (fun _ _ => none)) none) (fun _ _ => none)) none)) (some false))) (some false))) (some false))) (some false))) (some false))
theorem g_ref02_Street_ok (x0_s : GSightStreet) (R : Bool) (h : g_ref02_Street x0_s = some R) : VPure Tryz.prog G0 19 [.agg (cGSightStreet x0_s)] (.tree (.lit (.bool R))) := by
 refine VPure.runR mixed Tryz.call19 Tryz.func19 rfl (by simp [Tryz.ntmps19]; kernel_rfl) ?_
 obtain ⟨KF, h, kF, kN⟩ := fun_intro h
 simp only [g_ref02_Street] at h
 cases o14 : (g_ref02_in x0_s.Length 1 40) with
 | none =>
  simp only [o14, hs, reduceCtorEq] at h
  exact absurd h kN
 | some r13 =>
  simp only [o14, hs, reduceCtorEq] at h
  simp only [vz, tyf, nmB, implies_true, seval]
  refine ktree (args0 := [.lit (.int .i64 x0_s.Length), .lit (.int .i64 1), .lit (.int .i64 40)]) (by first | (simp only [nrm, tynrm] <;> rfl) | rfl) (by simp only [tre, tytre, Bool.and_self]) (g_ref02_in_ok _ _ _ _ o14) ?_
  refine fin_cut (fun tm => tm 1 = .ptr 0 0 ∧ tm 7 = .lit (.bool r13) ∧ True) (by refine ⟨?_, ?_, trivial⟩ <;> first | (simp only [upd_apply, updH_apply, without_apply, mV_app, mV_app0, nmB, implies_true, seval] <;> rfl) | rfl) ?_
  rintro tm ⟨e15, e16, _⟩
  cases d17 : (r13)
  ·simp only [d17, hs, reduceCtorEq] at h
   simp only [vz, tyf, e15, e16, d17, nmB, implies_true, seval]
   refine opd_ret (x := (.lit (.bool false))) (by first | (simp only [Tryz.results19, resV, resL, resV1, tgt_ptr, tgt_tp, upd_apply, updH_apply, without_apply, cr, tyf, e15, e16, d17, nmB, implies_true, seval] <;> rfl) | rfl) ?_
   obtain rfl := kF _ h
   refine rr_tree ?_ ?_
   ·simp only [tre, tytre, Bool.and_self]
   ·first | (simp only [outV, upd_apply, updH_apply, without_apply, showV_ref, cr, tyf, nrm, tynrm, e15, e16, d17, nmB, implies_true, seval] <;> rfl) | rfl
  ·simp only [d17, hs, reduceCtorEq] at h
   cases o19 : (g_ref02_in x0_s.Width 1 12) with
   | none =>
    simp only [o19, hs, reduceCtorEq] at h
    exact absurd h kN
   | some r18 =>
    simp only [o19, hs, reduceCtorEq] at h
    simp only [vz, tyf, e15, e16, d17, nmB, implies_true, seval]
    refine ktree (args0 := [.lit (.int .i64 x0_s.Width), .lit (.int .i64 1), .lit (.int .i64 12)]) (by first | (simp only [nrm, tynrm] <;> rfl) | rfl) (by simp only [tre, tytre, Bool.and_self]) (g_ref02_in_ok _ _ _ _ o19) ?_
    refine fin_cut (fun tm => tm 1 = .ptr 0 0 ∧ tm 9 = .lit (.bool false) ∧ tm 12 = .lit (.bool r18) ∧ True) (by refine ⟨e15, ?_, ?_, trivial⟩ <;> first | (simp only [upd_apply, updH_apply, without_apply, mV_app, mV_app0, e15, e16, d17, nmB, implies_true, seval] <;> rfl) | rfl) ?_
    rintro tm ⟨e20, e21, e22, _⟩
    cases d23 : (r18)
    ·simp only [d23, hs, reduceCtorEq] at h
     simp only [vz, tyf, d17, e20, e21, e22, d23, nmB, implies_true, seval]
     refine opd_ret (x := (.lit (.bool false))) (by first | (simp only [Tryz.results19, resV, resL, resV1, tgt_ptr, tgt_tp, upd_apply, updH_apply, without_apply, cr, tyf, d17, e20, e21, e22, d23, nmB, implies_true, seval] <;> rfl) | rfl) ?_
     obtain rfl := kF _ h
     refine rr_tree ?_ ?_
     ·simp only [tre, tytre, Bool.and_self]
     ·first | (simp only [outV, upd_apply, updH_apply, without_apply, showV_ref, cr, tyf, nrm, tynrm, d17, e20, e21, e22, d23, nmB, implies_true, seval] <;> rfl) | rfl
    ·simp only [d23, hs, reduceCtorEq] at h
     cases o25 : (g_ref02_span x0_s.Eye 1 40) with
     | none =>
      simp only [o25, hs, reduceCtorEq] at h
      exact absurd h kN
     | some r24 =>
      simp only [o25, hs, reduceCtorEq] at h
      simp only [vz, tyf, d17, e20, e21, e22, d23, nmB, implies_true, seval]
      refine ktree (args0 := [.agg (cGSpan x0_s.Eye), .lit (.int .i64 1), .lit (.int .i64 40)]) (by first | (simp only [nrm, tynrm] <;> rfl) | rfl) (by simp only [tre, tytre, Bool.and_self]) (g_ref02_span_ok _ _ _ _ o25) ?_
      refine fin_cut (fun tm => tm 1 = .ptr 0 0 ∧ tm 15 = .lit (.bool false) ∧ tm 18 = .lit (.bool r24) ∧ True) (by refine ⟨e20, ?_, ?_, trivial⟩ <;> first | (simp only [upd_apply, updH_apply, without_apply, mV_app, mV_app0, d17, e20, e21, e22, d23, nmB, implies_true, seval] <;> rfl) | rfl) ?_
      rintro tm ⟨e26, e27, e28, _⟩
      cases d29 : (r24)
      ·simp only [d29, hs, reduceCtorEq] at h
       simp only [vz, tyf, d17, d23, e26, e27, e28, d29, nmB, implies_true, seval]
       refine opd_ret (x := (.lit (.bool false))) (by first | (simp only [Tryz.results19, resV, resL, resV1, tgt_ptr, tgt_tp, upd_apply, updH_apply, without_apply, cr, tyf, d17, d23, e26, e27, e28, d29, nmB, implies_true, seval] <;> rfl) | rfl) ?_
       obtain rfl := kF _ h
       refine rr_tree ?_ ?_
       ·simp only [tre, tytre, Bool.and_self]
       ·first | (simp only [outV, upd_apply, updH_apply, without_apply, showV_ref, cr, tyf, nrm, tynrm, d17, d23, e26, e27, e28, d29, nmB, implies_true, seval] <;> rfl) | rfl
      ·simp only [d29, hs, reduceCtorEq] at h
       cases o31 : (g_ref02_span x0_s.Light 1 100) with
       | none =>
        simp only [o31, hs, reduceCtorEq] at h
        exact absurd h kN
       | some r30 =>
        simp only [o31, hs, reduceCtorEq] at h
        simp only [vz, tyf, d17, d23, e26, e27, e28, d29, nmB, implies_true, seval]
        refine ktree (args0 := [.agg (cGSpan x0_s.Light), .lit (.int .i64 1), .lit (.int .i64 100)]) (by first | (simp only [nrm, tynrm] <;> rfl) | rfl) (by simp only [tre, tytre, Bool.and_self]) (g_ref02_span_ok _ _ _ _ o31) ?_
        refine fin_cut (fun tm => tm 1 = .ptr 0 0 ∧ tm 21 = .lit (.bool false) ∧ tm 24 = .lit (.bool r30) ∧ True) (by refine ⟨e26, ?_, ?_, trivial⟩ <;> first | (simp only [upd_apply, updH_apply, without_apply, mV_app, mV_app0, d17, d23, e26, e27, e28, d29, nmB, implies_true, seval] <;> rfl) | rfl) ?_
        rintro tm ⟨e32, e33, e34, _⟩
        cases d35 : (r30)
        ·simp only [d35, hs, reduceCtorEq] at h
         simp only [vz, tyf, d17, d23, d29, e32, e33, e34, d35, nmB, implies_true, seval]
         refine opd_ret (x := (.lit (.bool false))) (by first | (simp only [Tryz.results19, resV, resL, resV1, tgt_ptr, tgt_tp, upd_apply, updH_apply, without_apply, cr, tyf, d17, d23, d29, e32, e33, e34, d35, nmB, implies_true, seval] <;> rfl) | rfl) ?_
         obtain rfl := kF _ h
         refine rr_tree ?_ ?_
         ·simp only [tre, tytre, Bool.and_self]
         ·first | (simp only [outV, upd_apply, updH_apply, without_apply, showV_ref, cr, tyf, nrm, tynrm, d17, d23, d29, e32, e33, e34, d35, nmB, implies_true, seval] <;> rfl) | rfl
        ·simp only [d35, hs, reduceCtorEq] at h
         cases o37 : (g_ref02_in (List.length x0_s.Boards : Int) 1 3) with
         | none =>
          simp only [o37, hs, reduceCtorEq] at h
          exact absurd h kN
         | some r36 =>
          simp only [o37, hs, reduceCtorEq] at h
          simp only [vz, tyf, d17, d23, d29, e32, e33, e34, d35, nmB, implies_true, seval]
          refine ktree (args0 := [.lit (.int .i64 (List.length x0_s.Boards : Int)), .lit (.int .i64 1), .lit (.int .i64 3)]) (by first | (simp only [nrm, tynrm] <;> rfl) | rfl) (by simp only [tre, tytre, Bool.and_self]) (g_ref02_in_ok _ _ _ _ o37) ?_
          refine fin_cut (fun tm => tm 1 = .ptr 0 0 ∧ tm 27 = .lit (.bool false) ∧ tm 31 = .lit (.bool r36) ∧ True) (by refine ⟨e32, ?_, ?_, trivial⟩ <;> first | (simp only [upd_apply, updH_apply, without_apply, mV_app, mV_app0, d17, d23, d29, e32, e33, e34, d35, nmB, implies_true, seval] <;> rfl) | rfl) ?_
          rintro tm ⟨e38, e39, e40, _⟩
          cases d41 : (r36)
          ·simp only [d41, hs, reduceCtorEq] at h
           simp only [vz, tyf, d17, d23, d29, d35, e38, e39, e40, d41, nmB, implies_true, seval]
           refine opd_ret (x := (.lit (.bool false))) (by first | (simp only [Tryz.results19, resV, resL, resV1, tgt_ptr, tgt_tp, upd_apply, updH_apply, without_apply, cr, tyf, d17, d23, d29, d35, e38, e39, e40, d41, nmB, implies_true, seval] <;> rfl) | rfl) ?_
           obtain rfl := kF _ h
           refine rr_tree ?_ ?_
           ·simp only [tre, tytre, Bool.and_self]
           ·first | (simp only [outV, upd_apply, updH_apply, without_apply, showV_ref, cr, tyf, nrm, tynrm, d17, d23, d29, d35, e38, e39, e40, d41, nmB, implies_true, seval] <;> rfl) | rfl
          ·simp only [d41, hs, reduceCtorEq] at h
           cases d42 : (decide ((List.length x0_s.Blocks : Int) > 4))
           ·simp only [d42, hs, reduceCtorEq] at h
            cases g44 : (lenOk x0_s.Boards)
            ·simp only [g44, hs, reduceCtorEq] at h
             exact absurd h kN
            simp only [g44, hs, reduceCtorEq] at h
            simp only [vz, tyf, d17, d23, d29, d35, e38, e39, e40, d41, d42, g44, nmB, implies_true, seval]
            obtain ⟨K43, h, kR43, kG43, kB43, kN43⟩ := lbind_intro h kN
            obtain ⟨f43, hf43, h⟩ := call2 h
            obtain ⟨I43, hI43⟩ : ∃ I : Nat → St → Prop, I = (fun m st => ∃ (p43 : List GSightBoard) (c43_3 : Int), m = List.length p43 ∧ 0 ≤ c43_3 ∧ List.drop (Int.toNat c43_3) x0_s.Boards = p43 ∧ st.df = [] ∧ 38 ≤ st.nx ∧ st.H 0 = some (.cells (some 27) (cGSightStreet x0_s)) ∧ st.tm 1 = .ptr 0 0 ∧ st.tm 3 = .lit (.int .i64 c43_3) ∧ K43 (f43 p43 c43_3)) := ⟨_, rfl⟩
            refine loopK mixed (by kernel_rfl) I43 (List.length x0_s.Boards) (by rw [hI43]; refine ⟨x0_s.Boards, 0, rfl, Int.le_refl _, rfl, rfl, (show 38 ≤ 38 by omega), ?_, e38, ?_, h⟩ <;> first | (simp only [upd_apply, updH_apply, without_apply, mV_app, mV_app0, d17, d23, d29, d35, e38, e39, e40, d41, d42, nmB, implies_true, seval] <;> rfl) | rfl) ?_
            rintro m ⟨tm, H, nx43, df⟩ hinv
            rw [hI43] at hinv
            obtain ⟨p43, c43_3, rfl, hi43, hp43, hdf, hn43, H45, e46, e47, h⟩ := hinv
            simp only at hdf hn43 H45 e46 e47
            have n48 := base_ne0 (m := 38) (b := nx43) (by omega)
            subst hdf hf43
            cases p43 with
            | nil =>
             have d49 : (decide (c43_3 < (List.length x0_s.Boards : Int))) = false := not_lt_of_drop hi43 hp43
             simp only [g_ref02_Street_l0, hs, reduceCtorEq] at h
             replace h := kG43 _ h
             try dsimp only at h
             try simp only [hs] at h
             cases g51 : (lenOk x0_s.Blocks)
             ·simp only [g51, hs, reduceCtorEq] at h
              exact absurd h kN
             simp only [g51, hs, reduceCtorEq] at h
             simp only [vz, tyf, d17, d23, d29, d35, d41, d42, g44, n48, e46, e47, H45, d49, g51, nmB, implies_true, seval]
             obtain ⟨K50, h, kR50, kG50, kB50, kN50⟩ := lbind_intro h kN
             obtain ⟨f50, hf50, h⟩ := call2 h
             obtain ⟨I50, hI50⟩ : ∃ I : Nat → St → Prop, I = (fun m st => ∃ (p50 : List GSightBlock) (c50_4 : Int), m = List.length p50 ∧ 0 ≤ c50_4 ∧ List.drop (Int.toNat c50_4) x0_s.Blocks = p50 ∧ st.df = [] ∧ nx43 + 6 ≤ st.nx ∧ st.H 0 = some (.cells (some 27) (cGSightStreet x0_s)) ∧ st.tm 1 = .ptr 0 0 ∧ st.tm 4 = .lit (.int .i64 c50_4) ∧ K50 (f50 p50 c50_4)) := ⟨_, rfl⟩
             refine loopK mixed (by kernel_rfl) I50 (List.length x0_s.Blocks) (by rw [hI50]; refine ⟨x0_s.Blocks, 0, rfl, Int.le_refl _, rfl, rfl, (show nx43 + 6 ≤ nx43 + 6 by omega), ?_, e46, ?_, h⟩ <;> first | (simp only [upd_apply, updH_apply, without_apply, mV_app, mV_app0, d17, d23, d29, d35, d41, d42, n48, e46, e47, H45, d49, nmB, implies_true, seval] <;> rfl) | rfl) ?_
             rintro m ⟨tm, H, nx50, df⟩ hinv
             rw [hI50] at hinv
             obtain ⟨p50, c50_4, rfl, hi50, hp50, hdf, hn50, H52, e53, e54, h⟩ := hinv
             simp only at hdf hn50 H52 e53 e54
             have n55 := base_ne0 (m := 38) (b := nx50) (by omega)
             have n56 := base_ne (a := nx43) (m := 6) (b := nx50) (by omega)
             subst hdf hf50
             cases p50 with
             | nil =>
              have d57 : (decide (c50_4 < (List.length x0_s.Blocks : Int))) = false := not_lt_of_drop hi50 hp50
              simp only [g_ref02_Street_l1, hs, reduceCtorEq] at h
              replace h := kG50 _ h
              try dsimp only at h
              try simp only [hs] at h
              simp only [vz, tyf, d17, d23, d29, d35, d41, d42, g44, n48, d49, g51, n55, n56, e53, e54, H52, d57, nmB, implies_true, seval]
              refine opd_ret (x := (.lit (.bool true))) (by first | (simp only [Tryz.results19, resV, resL, resV1, tgt_ptr, tgt_tp, upd_apply, updH_apply, without_apply, cr, tyf, d17, d23, d29, d35, d41, d42, g44, n48, d49, g51, n55, n56, e53, e54, H52, d57, nmB, implies_true, seval] <;> rfl) | rfl) ?_
              obtain rfl := kF _ h
              refine rr_tree ?_ ?_
              ·simp only [tre, tytre, Bool.and_self]
              ·first | (simp only [outV, upd_apply, updH_apply, without_apply, showV_ref, cr, tyf, nrm, tynrm, d17, d23, d29, d35, d41, d42, g44, n48, d49, g51, n55, n56, e53, e54, H52, d57, nmB, implies_true, seval] <;> rfl) | rfl
             | cons e50 p50 =>
              have d58 : (decide (c50_4 < (List.length x0_s.Blocks : Int))) = true := lt_of_drop hi50 hp50
              have o60 := getI_of_drop hi50 hp50
              have w59 := wrap_next hi50 hp50 g51
              simp only [g_ref02_Street_l1, hs, reduceCtorEq] at h
              simp only [vz, tyf, d17, d23, d29, d35, d41, d42, g44, n48, d49, g51, n55, n56, e53, e54, H52, d58, (ix25 o60), w59, nmB, implies_true, seval]
              refine cwp_drwQF (fun tm => tm 1 = .ptr 0 0 ∧ tm 4 = .lit (.int .i64 c50_4) ∧ True) (by refine ⟨e53, e54, trivial⟩ <;> first | (simp only [upd_apply, updH_apply, without_apply, mV_app, mV_app0, d17, d23, d29, d35, d41, d42, n48, d49, n55, n56, e53, e54, H52, d58, w59, nmB, implies_true, seval] <;> rfl) | rfl) ?_
              rintro tm ⟨e61, e62, _⟩
              cases o64 : (g_ref02_span e50.Along 0 x0_s.Length) with
              | none =>
               simp only [o64, hs, reduceCtorEq] at h
               exact absurd h kN50
              | some r63 =>
               simp only [o64, hs, reduceCtorEq] at h
               simp only [vz, tyf, d17, d23, d29, d35, d41, d42, g44, n48, d49, g51, n55, n56, H52, d58, (ix25 o60), w59, e61, e62, nmB, implies_true, seval]
               refine dktree (args0 := [.agg (cGSpan e50.Along), .lit (.int .i64 0), .lit (.int .i64 x0_s.Length)]) (by first | (simp only [nrm, tynrm] <;> rfl) | rfl) (by simp only [tre, tytre, Bool.and_self]) (g_ref02_span_ok _ _ _ _ o64) ?_
               refine fin_cut (fun tm => tm 1 = .ptr 0 0 ∧ tm 4 = .lit (.int .i64 c50_4) ∧ tm 71 = .lit (.bool r63) ∧ True) (by refine ⟨e61, e62, ?_, trivial⟩ <;> first | (simp only [upd_apply, updH_apply, without_apply, mV_app, mV_app0, d17, d23, d29, d35, d41, d42, n48, d49, n55, n56, H52, d58, w59, e61, e62, nmB, implies_true, seval] <;> rfl) | rfl) ?_
               rintro tm ⟨e65, e66, e67, _⟩
               cases d68 : (r63)
               ·simp only [d68, hs, reduceCtorEq] at h
                simp only [vz, tyf, d17, d23, d29, d35, d41, d42, g44, n48, d49, g51, n55, n56, H52, d58, (ix25 o60), w59, e65, e66, e67, d68, nmB, implies_true, seval]
                refine opd_ret (x := (.lit (.bool false))) (by first | (simp only [Tryz.results19, resV, resL, resV1, tgt_ptr, tgt_tp, upd_apply, updH_apply, without_apply, cr, tyf, d17, d23, d29, d35, d41, d42, g44, n48, d49, g51, n55, n56, H52, d58, (ix25 o60), w59, e65, e66, e67, d68, nmB, implies_true, seval] <;> rfl) | rfl) ?_
                replace h := kR50 _ h
                try dsimp only at h
                obtain rfl := kF _ h
                refine rr_tree ?_ ?_
                ·simp only [tre, tytre, Bool.and_self]
                ·first | (simp only [outV, upd_apply, updH_apply, without_apply, showV_ref, cr, tyf, nrm, tynrm, d17, d23, d29, d35, d41, d42, g44, n48, d49, g51, n55, n56, H52, d58, (ix25 o60), w59, e65, e66, e67, d68, nmB, implies_true, seval] <;> rfl) | rfl
               ·simp only [d68, hs, reduceCtorEq] at h
                cases o70 : (g_ref02_span e50.Across 1 x0_s.Width) with
                | none =>
                 simp only [o70, hs, reduceCtorEq] at h
                 exact absurd h kN50
                | some r69 =>
                 simp only [o70, hs, reduceCtorEq] at h
                 simp only [vz, tyf, d17, d23, d29, d35, d41, d42, g44, n48, d49, g51, n55, n56, H52, d58, (ix25 o60), w59, e65, e66, e67, d68, nmB, implies_true, seval]
                 refine dktree (args0 := [.agg (cGSpan e50.Across), .lit (.int .i64 1), .lit (.int .i64 x0_s.Width)]) (by first | (simp only [nrm, tynrm] <;> rfl) | rfl) (by simp only [tre, tytre, Bool.and_self]) (g_ref02_span_ok _ _ _ _ o70) ?_
                 refine fin_cut (fun tm => tm 1 = .ptr 0 0 ∧ tm 4 = .lit (.int .i64 c50_4) ∧ tm 73 = .lit (.bool false) ∧ tm 82 = .lit (.bool r69) ∧ True) (by refine ⟨e65, e66, ?_, ?_, trivial⟩ <;> first | (simp only [upd_apply, updH_apply, without_apply, mV_app, mV_app0, d17, d23, d29, d35, d41, d42, n48, d49, n55, n56, H52, d58, w59, e65, e66, e67, d68, nmB, implies_true, seval] <;> rfl) | rfl) ?_
                 rintro tm ⟨e71, e72, e73, e74, _⟩
                 cases d75 : (r69)
                 ·simp only [d75, hs, reduceCtorEq] at h
                  simp only [vz, tyf, d17, d23, d29, d35, d41, d42, g44, n48, d49, g51, n55, n56, H52, d58, (ix25 o60), w59, d68, e71, e72, e73, e74, d75, nmB, implies_true, seval]
                  refine opd_ret (x := (.lit (.bool false))) (by first | (simp only [Tryz.results19, resV, resL, resV1, tgt_ptr, tgt_tp, upd_apply, updH_apply, without_apply, cr, tyf, d17, d23, d29, d35, d41, d42, g44, n48, d49, g51, n55, n56, H52, d58, (ix25 o60), w59, d68, e71, e72, e73, e74, d75, nmB, implies_true, seval] <;> rfl) | rfl) ?_
                  replace h := kR50 _ h
                  try dsimp only at h
                  obtain rfl := kF _ h
                  refine rr_tree ?_ ?_
                  ·simp only [tre, tytre, Bool.and_self]
                  ·first | (simp only [outV, upd_apply, updH_apply, without_apply, showV_ref, cr, tyf, nrm, tynrm, d17, d23, d29, d35, d41, d42, g44, n48, d49, g51, n55, n56, H52, d58, (ix25 o60), w59, d68, e71, e72, e73, e74, d75, nmB, implies_true, seval] <;> rfl) | rfl
                 ·simp only [d75, hs, reduceCtorEq] at h
                  simp only [vz, tyf, d17, d23, d29, d35, d41, d42, g44, n48, d49, g51, n55, n56, H52, d58, (ix25 o60), w59, d68, e71, e72, e73, e74, d75, nmB, implies_true, seval]
                  exact ⟨List.length p50, Nat.lt_succ_self _, by rw [hI50]; refine ⟨p50, c50_4 + 1, rfl, Int.le_trans hi50 (Int.le_add_one (Int.le_refl _)), drop_next hi50 hp50, rfl, (show nx43 + 6 ≤ nx50 + 30 by omega), ?_, e71, ?_, h⟩ <;> first | (simp only [upd_apply, updH_apply, without_apply, mV_app, mV_app0, d17, d23, d29, d35, d41, d42, n48, d49, n55, n56, H52, d58, w59, d68, e71, e72, e73, e74, d75, nmB, implies_true, seval] <;> rfl) | rfl⟩
            | cons e43 p43 =>
             have d76 : (decide (c43_3 < (List.length x0_s.Boards : Int))) = true := lt_of_drop hi43 hp43
             have o78 := getI_of_drop hi43 hp43
             have w77 := wrap_next hi43 hp43 g44
             simp only [g_ref02_Street_l0, hs, reduceCtorEq] at h
             simp only [vz, tyf, d17, d23, d29, d35, d41, d42, g44, n48, e46, e47, H45, d76, (ix24 o78), w77, nmB, implies_true, seval]
             refine cwp_drwQF (fun tm => tm 1 = .ptr 0 0 ∧ tm 3 = .lit (.int .i64 c43_3) ∧ True) (by refine ⟨e46, e47, trivial⟩ <;> first | (simp only [upd_apply, updH_apply, without_apply, mV_app, mV_app0, d17, d23, d29, d35, d41, d42, n48, e46, e47, H45, d76, w77, nmB, implies_true, seval] <;> rfl) | rfl) ?_
             rintro tm ⟨e79, e80, _⟩
             cases o82 : (g_ref02_board e43 x0_s.Length) with
             | none =>
              simp only [o82, hs, reduceCtorEq] at h
              exact absurd h kN43
             | some r81 =>
              simp only [o82, hs, reduceCtorEq] at h
              simp only [vz, tyf, d17, d23, d29, d35, d41, d42, g44, n48, H45, d76, (ix24 o78), w77, e79, e80, nmB, implies_true, seval]
              refine dktree (args0 := [.agg (cGSightBoard e43), .lit (.int .i64 x0_s.Length)]) (by first | (simp only [nrm, tynrm] <;> rfl) | rfl) (by simp only [tre, tytre, Bool.and_self]) (g_ref02_board_ok _ _ _ o82) ?_
              refine fin_cut (fun tm => tm 1 = .ptr 0 0 ∧ tm 3 = .lit (.int .i64 c43_3) ∧ tm 54 = .lit (.bool r81) ∧ True) (by refine ⟨e79, e80, ?_, trivial⟩ <;> first | (simp only [upd_apply, updH_apply, without_apply, mV_app, mV_app0, d17, d23, d29, d35, d41, d42, n48, H45, d76, w77, e79, e80, nmB, implies_true, seval] <;> rfl) | rfl) ?_
              rintro tm ⟨e83, e84, e85, _⟩
              cases d86 : (r81)
              ·simp only [d86, hs, reduceCtorEq] at h
               simp only [vz, tyf, d17, d23, d29, d35, d41, d42, g44, n48, H45, d76, (ix24 o78), w77, e83, e84, e85, d86, nmB, implies_true, seval]
               refine opd_ret (x := (.lit (.bool false))) (by first | (simp only [Tryz.results19, resV, resL, resV1, tgt_ptr, tgt_tp, upd_apply, updH_apply, without_apply, cr, tyf, d17, d23, d29, d35, d41, d42, g44, n48, H45, d76, (ix24 o78), w77, e83, e84, e85, d86, nmB, implies_true, seval] <;> rfl) | rfl) ?_
               replace h := kR43 _ h
               try dsimp only at h
               obtain rfl := kF _ h
               refine rr_tree ?_ ?_
               ·simp only [tre, tytre, Bool.and_self]
               ·first | (simp only [outV, upd_apply, updH_apply, without_apply, showV_ref, cr, tyf, nrm, tynrm, d17, d23, d29, d35, d41, d42, g44, n48, H45, d76, (ix24 o78), w77, e83, e84, e85, d86, nmB, implies_true, seval] <;> rfl) | rfl
              ·simp only [d86, hs, reduceCtorEq] at h
               simp only [vz, tyf, d17, d23, d29, d35, d41, d42, g44, n48, H45, d76, (ix24 o78), w77, e83, e84, e85, d86, nmB, implies_true, seval]
               exact ⟨List.length p43, Nat.lt_succ_self _, by rw [hI43]; refine ⟨p43, c43_3 + 1, rfl, Int.le_trans hi43 (Int.le_add_one (Int.le_refl _)), drop_next hi43 hp43, rfl, (show 38 ≤ nx43 + 17 by omega), ?_, e83, ?_, h⟩ <;> first | (simp only [upd_apply, updH_apply, without_apply, mV_app, mV_app0, d17, d23, d29, d35, d41, d42, n48, H45, d76, w77, e83, e84, e85, d86, nmB, implies_true, seval] <;> rfl) | rfl⟩
           ·simp only [d42, hs, reduceCtorEq] at h
            simp only [vz, tyf, d17, d23, d29, d35, e38, e39, e40, d41, d42, nmB, implies_true, seval]
            refine opd_ret (x := (.lit (.bool false))) (by first | (simp only [Tryz.results19, resV, resL, resV1, tgt_ptr, tgt_tp, upd_apply, updH_apply, without_apply, cr, tyf, d17, d23, d29, d35, e38, e39, e40, d41, d42, nmB, implies_true, seval] <;> rfl) | rfl) ?_
            obtain rfl := kF _ h
            refine rr_tree ?_ ?_
            ·simp only [tre, tytre, Bool.and_self]
            ·first | (simp only [outV, upd_apply, updH_apply, without_apply, showV_ref, cr, tyf, nrm, tynrm, d17, d23, d29, d35, e38, e39, e40, d41, d42, nmB, implies_true, seval] <;> rfl) | rfl
end Go.V
end
section
namespace Go.V
open Go Go.Proofs
set_option linter.unusedSimpArgs false
set_option linter.unusedVariables false
set_option maxRecDepth 4000
set_option maxHeartbeats 4000000
def g_ref02_Board (x0_s : GSightStreet) (x1_n : Int) : Option (Bool) := Option.bind (g_ref02_in x1_n 0 (IntKind.i64.wrap ((List.length x0_s.Boards : Int) - 1))) (fun r1 => some r1)
theorem g_ref02_Board_ok (x0_s : GSightStreet) (x1_n : Int) (R : Bool) (h : g_ref02_Board x0_s x1_n = some R) : VPure Tryz.prog G0 20 [.agg (cGSightStreet x0_s), .lit (.int .i64 x1_n)] (.tree (.lit (.bool R))) := by
 refine VPure.runR mixed Tryz.call20 Tryz.func20 rfl (by simp [Tryz.ntmps20]; kernel_rfl) ?_
 obtain ⟨KF, h, kF, kN⟩ := fun_intro h
 simp only [g_ref02_Board] at h
 cases o3 : (g_ref02_in x1_n 0 (IntKind.i64.wrap ((List.length x0_s.Boards : Int) - 1))) with
 | none =>
  simp only [o3, hs, reduceCtorEq] at h
  exact absurd h kN
 | some r2 =>
  simp only [o3, hs, reduceCtorEq] at h
  simp only [vz, tyf, nmB, implies_true, seval]
  refine ktree (args0 := [.lit (.int .i64 x1_n), .lit (.int .i64 0), .lit (.int .i64 (IntKind.i64.wrap ((List.length x0_s.Boards : Int) - 1)))]) (by first | (simp only [nrm, tynrm] <;> rfl) | rfl) (by simp only [tre, tytre, Bool.and_self]) (g_ref02_in_ok _ _ _ _ o3) ?_
  refine fin_cut (fun tm => tm 10 = .lit (.bool r2) ∧ True) (by refine ⟨?_, trivial⟩ <;> first | (simp only [upd_apply, updH_apply, without_apply, mV_app, mV_app0, nmB, implies_true, seval] <;> rfl) | rfl) ?_
  rintro tm ⟨e4, _⟩
  simp only [vz, tyf, e4, nmB, implies_true, seval]
  refine opd_ret (x := (.lit (.bool r2))) (by first | (simp only [Tryz.results20, resV, resL, resV1, tgt_ptr, tgt_tp, upd_apply, updH_apply, without_apply, cr, tyf, e4, nmB, implies_true, seval] <;> rfl) | rfl) ?_
  obtain rfl := kF _ h
  refine rr_tree ?_ ?_
  ·simp only [tre, tytre, Bool.and_self]
  ·first | (simp only [outV, upd_apply, updH_apply, without_apply, showV_ref, cr, tyf, nrm, tynrm, e4, nmB, implies_true, seval] <;> rfl) | rfl
end Go.V
end
section
namespace Go.V
open Go Go.Proofs
set_option linter.unusedSimpArgs false
set_option linter.unusedVariables false
set_option maxRecDepth 4000
set_option maxHeartbeats 4000000
def g_ref02_Place (x0_s : GSightStreet) (x1_p : GSightPlace) : Option (Bool) := Option.bind (g_ref02_in x1_p.Along 0 x0_s.Length) (fun r1 => cond (r1) (Option.bind (g_ref02_in x1_p.Across 1 x0_s.Width) (fun r2 => some r2)) (some false))
theorem g_ref02_Place_ok (x0_s : GSightStreet) (x1_p : GSightPlace) (R : Bool) (h : g_ref02_Place x0_s x1_p = some R) : VPure Tryz.prog G0 21 [.agg (cGSightStreet x0_s), .agg (cGSightPlace x1_p)] (.tree (.lit (.bool R))) := by
 refine VPure.runR mixed Tryz.call21 Tryz.func21 rfl (by simp [Tryz.ntmps21]; kernel_rfl) ?_
 obtain ⟨KF, h, kF, kN⟩ := fun_intro h
 simp only [g_ref02_Place] at h
 cases o4 : (g_ref02_in x1_p.Along 0 x0_s.Length) with
 | none =>
  simp only [o4, hs, reduceCtorEq] at h
  exact absurd h kN
 | some r3 =>
  simp only [o4, hs, reduceCtorEq] at h
  simp only [vz, tyf, nmB, implies_true, seval]
  refine ktree (args0 := [.lit (.int .i64 x1_p.Along), .lit (.int .i64 0), .lit (.int .i64 x0_s.Length)]) (by first | (simp only [nrm, tynrm] <;> rfl) | rfl) (by simp only [tre, tytre, Bool.and_self]) (g_ref02_in_ok _ _ _ _ o4) ?_
  refine fin_cut (fun tm => tm 2 = .ptr 0 0 ∧ tm 3 = .ptr 1 0 ∧ tm 9 = .lit (.bool r3) ∧ True) (by refine ⟨?_, ?_, ?_, trivial⟩ <;> first | (simp only [upd_apply, updH_apply, without_apply, mV_app, mV_app0, nmB, implies_true, seval] <;> rfl) | rfl) ?_
  rintro tm ⟨e5, e6, e7, _⟩
  cases d8 : (r3)
  ·simp only [d8, hs, reduceCtorEq] at h
   simp only [vz, tyf, e5, e6, e7, d8, nmB, implies_true, seval]
   refine opd_ret (x := (.lit (.bool false))) (by first | (simp only [Tryz.results21, resV, resL, resV1, tgt_ptr, tgt_tp, upd_apply, updH_apply, without_apply, cr, tyf, e5, e6, e7, d8, nmB, implies_true, seval] <;> rfl) | rfl) ?_
   obtain rfl := kF _ h
   refine rr_tree ?_ ?_
   ·simp only [tre, tytre, Bool.and_self]
   ·first | (simp only [outV, upd_apply, updH_apply, without_apply, showV_ref, cr, tyf, nrm, tynrm, e5, e6, e7, d8, nmB, implies_true, seval] <;> rfl) | rfl
  ·simp only [d8, hs, reduceCtorEq] at h
   cases o10 : (g_ref02_in x1_p.Across 1 x0_s.Width) with
   | none =>
    simp only [o10, hs, reduceCtorEq] at h
    exact absurd h kN
   | some r9 =>
    simp only [o10, hs, reduceCtorEq] at h
    simp only [vz, tyf, e5, e6, e7, d8, nmB, implies_true, seval]
    refine ktree (args0 := [.lit (.int .i64 x1_p.Across), .lit (.int .i64 1), .lit (.int .i64 x0_s.Width)]) (by first | (simp only [nrm, tynrm] <;> rfl) | rfl) (by simp only [tre, tytre, Bool.and_self]) (g_ref02_in_ok _ _ _ _ o10) ?_
    refine fin_cut (fun tm => tm 10 = .lit (.bool true) ∧ tm 15 = .lit (.bool r9) ∧ True) (by refine ⟨?_, ?_, trivial⟩ <;> first | (simp only [upd_apply, updH_apply, without_apply, mV_app, mV_app0, e5, e6, e7, d8, nmB, implies_true, seval] <;> rfl) | rfl) ?_
    rintro tm ⟨e11, e12, _⟩
    simp only [vz, tyf, d8, e11, e12, nmB, implies_true, seval]
    refine opd_ret (x := (.lit (.bool r9))) (by first | (simp only [Tryz.results21, resV, resL, resV1, tgt_ptr, tgt_tp, upd_apply, updH_apply, without_apply, cr, tyf, d8, e11, e12, nmB, implies_true, seval] <;> rfl) | rfl) ?_
    obtain rfl := kF _ h
    refine rr_tree ?_ ?_
    ·simp only [tre, tytre, Bool.and_self]
    ·first | (simp only [outV, upd_apply, updH_apply, without_apply, showV_ref, cr, tyf, nrm, tynrm, d8, e11, e12, nmB, implies_true, seval] <;> rfl) | rfl
end Go.V
end
