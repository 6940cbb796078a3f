/- Part of the proof of statements of YtbpeickbdiihcaaGreatDoor: a logic of values by content, the lifted functions, and what follows. -/
import Derived.Test.YtbpeickbdiihcaaGreatDoorMbd
import Derived.Test.YtbpeickbdiihcaaGreatDoorMbf
import Derived.Test.YtbpeickbdiihcaaGreatDoorMbl
import Derived.Test.YtbpeickbdiihcaaGreatDoorMbj
import Derived.Test.YtbpeickbdiihcaaGreatDoorMaz
import Derived.Test.YtbpeickbdiihcaaGreatDoorProg
set_option linter.unusedVariables false
set_option linter.unusedSimpArgs false
set_option linter.unusedSectionVars false
set_option linter.constructorNameAsVariable false
section
namespace Go.V
open Go Go.Proofs
set_option linter.unusedSimpArgs false
set_option linter.unusedVariables false
set_option maxRecDepth 4000
set_option maxHeartbeats 4000000
def g_ref02_May_l0 (x0_s : GSightStreet) : List Int → Int → Option (LOut (Bool) (Unit))
 | [], c0_8 => some (.go ())
 | e0 :: p0, c0_8 => Option.bind (getI x0_s.Blocks e0) (fun x2 => cond (x2.Sure) (some (.ret false)) (g_ref02_May_l0 x0_s p0 (c0_8 + 1)))
def g_ref02_May (x0_s : GSightStreet) (x1_b : GSightBoard) (x2_p : GSightPlace) : Option (Bool) := Option.bind (g_ref02_Hidden x0_s x1_b x2_p) (fun r1 => cond (lenOk r1) (lbind (g_ref02_May_l0 x0_s r1 0) (fun r5 => some r5) (fun c3 => Option.bind (g_ref02_Clear x1_b x2_p (IntKind.i64.wrap (x0_s.Eye.High * x0_s.Light.High))) (fun r4 => some r4)) (fun _ _ => none)) none)
theorem g_ref02_May_ok (x0_s : GSightStreet) (x1_b : GSightBoard) (x2_p : GSightPlace) (R : Bool) (h : g_ref02_May x0_s x1_b x2_p = some R) : VPure Tryz.prog G0 63 [.agg (cGSightStreet x0_s), .agg (cGSightBoard x1_b), .agg (cGSightPlace x2_p)] (.tree (.lit (.bool R))) := by
 refine VPure.runR mixed Tryz.call63 Tryz.func63 rfl (by simp [Tryz.ntmps63]; kernel_rfl) ?_
 obtain ⟨KF, h, kF, kN⟩ := fun_intro h
 simp only [g_ref02_May] at h
 cases o7 : (g_ref02_Hidden x0_s x1_b x2_p) with
 | none =>
  simp only [o7, hs, reduceCtorEq] at h
  exact absurd h kN
 | some r6 =>
  simp only [o7, hs, reduceCtorEq] at h
  simp only [vz, tyf, nmB, implies_true, seval]
  refine ktree (args0 := [.agg (cGSightStreet x0_s), .agg (cGSightBoard x1_b), .agg (cGSightPlace x2_p)]) (by first | (simp only [nrm, tynrm] <;> rfl) | rfl) (by simp only [tre, tytre, Bool.and_self]) (g_ref02_Hidden_ok _ _ _ _ o7) ?_
  refine fin_cut (fun tm => tm 3 = .ptr 0 0 ∧ tm 4 = .ptr 1 0 ∧ tm 5 = .ptr 2 0 ∧ tm 12 = .sl (cellsL eI r6) (List.length r6) false ∧ True) (by refine ⟨?_, ?_, ?_, ?_, trivial⟩ <;> first | (simp only [upd_apply, updH_apply, without_apply, mV_app, mV_app0, nmB, implies_true, seval] <;> rfl) | rfl) ?_
  rintro tm ⟨e8, e9, e10, e11, _⟩
  cases g13 : (lenOk r6)
  ·simp only [g13, hs, reduceCtorEq] at h
   exact absurd h kN
  simp only [g13, hs, reduceCtorEq] at h
  simp only [vz, tyf, e8, e9, e10, e11, g13, nmB, implies_true, seval]
  obtain ⟨K12, h, kR12, kG12, kB12, kN12⟩ := lbind_intro h kN
  obtain ⟨f12, hf12, h⟩ := call2 h
  obtain ⟨I12, hI12⟩ : ∃ I : Nat → St → Prop, I = (fun m st => ∃ (p12 : List Int) (c12_8 : Int), m = List.length p12 ∧ 0 ≤ c12_8 ∧ List.drop (Int.toNat c12_8) r6 = p12 ∧ st.df = [] ∧ 10 ≤ st.nx ∧ st.H 0 = some (.cells (some 27) (cGSightStreet x0_s)) ∧ st.H 1 = some (.cells (some 42) (cGSightBoard x1_b)) ∧ st.H 2 = some (.cells (some 29) (cGSightPlace x2_p)) ∧ st.tm 3 = .ptr 0 0 ∧ st.tm 4 = .ptr 1 0 ∧ st.tm 5 = .ptr 2 0 ∧ st.tm 7 = .sl (cellsL eI r6) (List.length r6) false ∧ st.tm 8 = .lit (.int .i64 c12_8) ∧ K12 (f12 p12 c12_8)) := ⟨_, rfl⟩
  refine loopK mixed (by kernel_rfl) I12 (List.length r6) (by rw [hI12]; refine ⟨r6, 0, rfl, Int.le_refl _, rfl, rfl, (show 10 ≤ 10 by omega), ?_, ?_, ?_, e8, e9, e10, ?_, ?_, h⟩ <;> first | (simp only [upd_apply, updH_apply, without_apply, mV_app, mV_app0, e8, e9, e10, e11, nmB, implies_true, seval] <;> rfl) | rfl) ?_
  rintro m ⟨tm, H, nx12, df⟩ hinv
  rw [hI12] at hinv
  obtain ⟨p12, c12_8, rfl, hi12, hp12, hdf, hn12, H14, H15, H16, e17, e18, e19, e20, e21, h⟩ := hinv
  simp only at hdf hn12 H14 H15 H16 e17 e18 e19 e20 e21
  have n22 := base_ne0 (m := 10) (b := nx12) (by omega)
  subst hdf hf12
  cases p12 with
  | nil =>
   have d23 : (decide (c12_8 < (List.length r6 : Int))) = false := not_lt_of_drop hi12 hp12
   simp only [g_ref02_May_l0, hs, reduceCtorEq] at h
   replace h := kG12 _ h
   try dsimp only at h
   try simp only [hs] at h
   cases o25 : (g_ref02_Clear x1_b x2_p (IntKind.i64.wrap (x0_s.Eye.High * x0_s.Light.High))) with
   | none =>
    simp only [o25, hs, reduceCtorEq] at h
    exact absurd h kN
   | some r24 =>
    simp only [o25, hs, reduceCtorEq] at h
    simp only [vz, tyf, g13, n22, e17, e18, e19, e20, e21, H14, H15, H16, d23, nmB, implies_true, seval]
    refine ktree (args0 := [.agg (cGSightBoard x1_b), .agg (cGSightPlace x2_p), .lit (.int .i64 (IntKind.i64.wrap (x0_s.Eye.High * x0_s.Light.High)))]) (by first | (simp only [nrm, tynrm] <;> rfl) | rfl) (by simp only [tre, tytre, Bool.and_self]) (g_ref02_Clear_ok _ _ _ _ o25) ?_
    refine fin_cut (fun tm => tm 37 = .lit (.bool r24) ∧ True) (by refine ⟨?_, trivial⟩ <;> first | (simp only [upd_apply, updH_apply, without_apply, mV_app, mV_app0, n22, e17, e18, e19, e20, e21, H14, H15, H16, d23, nmB, implies_true, seval] <;> rfl) | rfl) ?_
    rintro tm ⟨e26, _⟩
    simp only [vz, tyf, g13, n22, H14, H15, H16, d23, e26, nmB, implies_true, seval]
    refine opd_ret (x := (.lit (.bool r24))) (by first | (simp only [Tryz.results63, resV, resL, resV1, tgt_ptr, tgt_tp, upd_apply, updH_apply, without_apply, cr, tyf, g13, n22, H14, H15, H16, d23, e26, nmB, implies_true, seval] <;> rfl) | rfl) ?_
    obtain rfl := kF _ h
    refine rr_tree ?_ ?_
    ·simp only [tre, tytre, Bool.and_self]
    ·first | (simp only [outV, upd_apply, updH_apply, without_apply, showV_ref, cr, tyf, nrm, tynrm, g13, n22, H14, H15, H16, d23, e26, nmB, implies_true, seval] <;> rfl) | rfl
  | cons e12 p12 =>
   have d27 : (decide (c12_8 < (List.length r6 : Int))) = true := lt_of_drop hi12 hp12
   have o29 := getI_of_drop hi12 hp12
   have w28 := wrap_next hi12 hp12 g13
   simp only [g_ref02_May_l0, hs, reduceCtorEq] at h
   simp only [vz, tyf, g13, n22, e17, e18, e19, e20, e21, H14, H15, H16, d27, (ix57 o29), w28, nmB, implies_true, seval]
   refine cwp_drwQF (fun tm => tm 3 = .ptr 0 0 ∧ tm 4 = .ptr 1 0 ∧ tm 5 = .ptr 2 0 ∧ tm 7 = .sl (cellsL eI r6) (List.length r6) false ∧ tm 8 = .lit (.int .i64 c12_8) ∧ True) (by refine ⟨e17, e18, e19, e20, e21, trivial⟩ <;> first | (simp only [upd_apply, updH_apply, without_apply, mV_app, mV_app0, n22, e17, e18, e19, e20, e21, H14, H15, H16, d27, w28, nmB, implies_true, seval] <;> rfl) | rfl) ?_
   rintro tm ⟨e30, e31, e32, e33, e34, _⟩
   cases o36 : (getI x0_s.Blocks e12) with
   | none =>
    simp only [o36, hs, reduceCtorEq] at h
    exact absurd h kN12
   | some x35 =>
    simp only [o36, hs, reduceCtorEq] at h
    cases d37 : (x35.Sure)
    ·simp only [d37, hs, reduceCtorEq] at h
     simp only [vz, tyf, g13, n22, H14, H15, H16, d27, (ix57 o29), w28, e30, e31, e32, e33, e34, (ix25 o36), d37, nmB, implies_true, seval]
     exact ⟨List.length p12, Nat.lt_succ_self _, by rw [hI12]; refine ⟨p12, c12_8 + 1, rfl, Int.le_trans hi12 (Int.le_add_one (Int.le_refl _)), drop_next hi12 hp12, rfl, (show 10 ≤ nx12 + 16 by omega), ?_, ?_, ?_, e30, e31, e32, e33, ?_, h⟩ <;> first | (simp only [upd_apply, updH_apply, without_apply, mV_app, mV_app0, n22, H14, H15, H16, d27, w28, e30, e31, e32, e33, e34, d37, nmB, implies_true, seval] <;> rfl) | rfl⟩
    ·simp only [d37, hs, reduceCtorEq] at h
     simp only [vz, tyf, g13, n22, H14, H15, H16, d27, (ix57 o29), w28, e30, e31, e32, e33, e34, (ix25 o36), d37, nmB, implies_true, seval]
     refine opd_ret (x := (.lit (.bool false))) (by first | (simp only [Tryz.results63, resV, resL, resV1, tgt_ptr, tgt_tp, upd_apply, updH_apply, without_apply, cr, tyf, g13, n22, H14, H15, H16, d27, (ix57 o29), w28, e30, e31, e32, e33, e34, (ix25 o36), d37, nmB, implies_true, seval] <;> rfl) | rfl) ?_
     replace h := kR12 _ h
     try dsimp only at h
     obtain rfl := kF _ h
     refine rr_tree ?_ ?_
     ·simp only [tre, tytre, Bool.and_self]
     ·first | (simp only [outV, upd_apply, updH_apply, without_apply, showV_ref, cr, tyf, nrm, tynrm, g13, n22, H14, H15, H16, d27, (ix57 o29), w28, e30, e31, e32, e33, e34, (ix25 o36), d37, nmB, implies_true, seval] <;> rfl) | rfl
end Go.V
end
section
namespace Go.V
open Go Go.Proofs
set_option linter.unusedSimpArgs false
set_option linter.unusedVariables false
set_option maxRecDepth 4000
set_option maxHeartbeats 4000000
def g_ref02_word (x0_surely : Bool) (x1_may : Bool) : Option (Int) := cond (x0_surely) (some 3) (cond (x1_may) (some 2) (some 1))
theorem g_ref02_word_ok (x0_surely : Bool) (x1_may : Bool) (R : Int) (h : g_ref02_word x0_surely x1_may = some R) : VPure Tryz.prog G0 61 [.lit (.bool x0_surely), .lit (.bool x1_may)] (.tree (.lit (.int .i64 R))) := by
 refine VPure.runR mixed Tryz.call61 Tryz.func61 rfl (by simp [Tryz.ntmps61]; kernel_rfl) ?_
 obtain ⟨KF, h, kF, kN⟩ := fun_intro h
 simp only [g_ref02_word] at h
 cases d1 : (x0_surely)
 ·simp only [d1, hs, reduceCtorEq] at h
  cases d2 : (x1_may)
  ·simp only [d2, hs, reduceCtorEq] at h
   simp only [vz, tyf, d1, d2, nmB, implies_true, seval]
   refine opd_ret (x := (.lit (.int .i64 1))) (by first | (simp only [Tryz.results61, resV, resL, resV1, tgt_ptr, tgt_tp, upd_apply, updH_apply, without_apply, cr, tyf, d1, d2, nmB, implies_true, seval] <;> rfl) | rfl) ?_
   obtain rfl := kF _ h
   refine rr_tree ?_ ?_
   ·simp only [tre, tytre, Bool.and_self]
   ·first | (simp only [outV, upd_apply, updH_apply, without_apply, showV_ref, cr, tyf, nrm, tynrm, d1, d2, nmB, implies_true, seval] <;> rfl) | rfl
  ·simp only [d2, hs, reduceCtorEq] at h
   simp only [vz, tyf, d1, d2, nmB, implies_true, seval]
   refine opd_ret (x := (.lit (.int .i64 2))) (by first | (simp only [Tryz.results61, resV, resL, resV1, tgt_ptr, tgt_tp, upd_apply, updH_apply, without_apply, cr, tyf, d1, d2, nmB, implies_true, seval] <;> rfl) | rfl) ?_
   obtain rfl := kF _ h
   refine rr_tree ?_ ?_
   ·simp only [tre, tytre, Bool.and_self]
   ·first | (simp only [outV, upd_apply, updH_apply, without_apply, showV_ref, cr, tyf, nrm, tynrm, d1, d2, nmB, implies_true, seval] <;> rfl) | rfl
 ·simp only [d1, hs, reduceCtorEq] at h
  simp only [vz, tyf, d1, nmB, implies_true, seval]
  refine opd_ret (x := (.lit (.int .i64 3))) (by first | (simp only [Tryz.results61, resV, resL, resV1, tgt_ptr, tgt_tp, upd_apply, updH_apply, without_apply, cr, tyf, d1, nmB, implies_true, seval] <;> rfl) | rfl) ?_
  obtain rfl := kF _ h
  refine rr_tree ?_ ?_
  ·simp only [tre, tytre, Bool.and_self]
  ·first | (simp only [outV, upd_apply, updH_apply, without_apply, showV_ref, cr, tyf, nrm, tynrm, d1, nmB, implies_true, seval] <;> rfl) | rfl
end Go.V
end
section
namespace Go.V
open Go Go.Proofs
set_option linter.unusedSimpArgs false
set_option linter.unusedVariables false
set_option maxRecDepth 4000
set_option maxHeartbeats 4000000
def g_ref02_Seen (x0_s : GSightStreet) (x1_b : GSightBoard) (x2_p : GSightPlace) : Option (Int) := Option.bind (g_ref02_Surely x0_s x1_b x2_p) (fun r1 => Option.bind (g_ref02_May x0_s x1_b x2_p) (fun r2 => Option.bind (g_ref02_word r1 r2) (fun r3 => some r3)))
theorem g_ref02_Seen_ok (x0_s : GSightStreet) (x1_b : GSightBoard) (x2_p : GSightPlace) (R : Int) (h : g_ref02_Seen x0_s x1_b x2_p = some R) : VPure Tryz.prog G0 22 [.agg (cGSightStreet x0_s), .agg (cGSightBoard x1_b), .agg (cGSightPlace x2_p)] (.tree (.lit (.int .i64 R))) := by
 refine VPure.runR mixed Tryz.call22 Tryz.func22 rfl (by simp [Tryz.ntmps22]; kernel_rfl) ?_
 obtain ⟨KF, h, kF, kN⟩ := fun_intro h
 simp only [g_ref02_Seen] at h
 simp only [vz, tyf, nmB, implies_true, seval]
 refine cwp_drwQF (fun tm => tm 3 = .ptr 0 0 ∧ tm 4 = .ptr 1 0 ∧ tm 5 = .ptr 2 0 ∧ True) (by refine ⟨?_, ?_, ?_, trivial⟩ <;> first | (simp only [upd_apply, updH_apply, without_apply, mV_app, mV_app0, nmB, implies_true, seval] <;> rfl) | rfl) ?_
 rintro tm ⟨e4, e5, e6, _⟩
 cases o8 : (g_ref02_Surely x0_s x1_b x2_p) with
 | none =>
  simp only [o8, hs, reduceCtorEq] at h
  exact absurd h kN
 | some r7 =>
  simp only [o8, hs, reduceCtorEq] at h
  simp only [vz, tyf, e4, e5, e6, nmB, implies_true, seval]
  refine dktree (args0 := [.agg (cGSightStreet x0_s), .agg (cGSightBoard x1_b), .agg (cGSightPlace x2_p)]) (by first | (simp only [nrm, tynrm] <;> rfl) | rfl) (by simp only [tre, tytre, Bool.and_self]) (g_ref02_Surely_ok _ _ _ _ o8) ?_
  refine fin_cut (fun tm => tm 3 = .ptr 0 0 ∧ tm 4 = .ptr 1 0 ∧ tm 5 = .ptr 2 0 ∧ tm 10 = .lit (.bool r7) ∧ True) (by refine ⟨e4, e5, e6, ?_, trivial⟩ <;> first | (simp only [upd_apply, updH_apply, without_apply, mV_app, mV_app0, e4, e5, e6, nmB, implies_true, seval] <;> rfl) | rfl) ?_
  rintro tm ⟨e9, e10, e11, e12, _⟩
  cases o14 : (g_ref02_May x0_s x1_b x2_p) with
  | none =>
   simp only [o14, hs, reduceCtorEq] at h
   exact absurd h kN
  | some r13 =>
   simp only [o14, hs, reduceCtorEq] at h
   simp only [vz, tyf, e9, e10, e11, e12, nmB, implies_true, seval]
   refine dktree (args0 := [.agg (cGSightStreet x0_s), .agg (cGSightBoard x1_b), .agg (cGSightPlace x2_p)]) (by first | (simp only [nrm, tynrm] <;> rfl) | rfl) (by simp only [tre, tytre, Bool.and_self]) (g_ref02_May_ok _ _ _ _ o14) ?_
   refine fin_cut (fun tm => tm 10 = .lit (.bool r7) ∧ tm 14 = .lit (.bool r13) ∧ True) (by refine ⟨e12, ?_, trivial⟩ <;> first | (simp only [upd_apply, updH_apply, without_apply, mV_app, mV_app0, e9, e10, e11, e12, nmB, implies_true, seval] <;> rfl) | rfl) ?_
   rintro tm ⟨e15, e16, _⟩
   cases o18 : (g_ref02_word r7 r13) with
   | none =>
    simp only [o18, hs, reduceCtorEq] at h
    exact absurd h kN
   | some r17 =>
    simp only [o18, hs, reduceCtorEq] at h
    simp only [vz, tyf, e15, e16, nmB, implies_true, seval]
    refine dktree (args0 := [.lit (.bool r7), .lit (.bool r13)]) (by first | (simp only [nrm, tynrm] <;> rfl) | rfl) (by simp only [tre, tytre, Bool.and_self]) (g_ref02_word_ok _ _ _ o18) ?_
    refine fin_cut (fun tm => tm 15 = .lit (.int .i64 r17) ∧ True) (by refine ⟨?_, trivial⟩ <;> first | (simp only [upd_apply, updH_apply, without_apply, mV_app, mV_app0, e15, e16, nmB, implies_true, seval] <;> rfl) | rfl) ?_
    rintro tm ⟨e19, _⟩
    simp only [vz, tyf, e19, nmB, implies_true, seval]
    refine opd_ret (x := (.lit (.int .i64 r17))) (by first | (simp only [Tryz.results22, resV, resL, resV1, tgt_ptr, tgt_tp, upd_apply, updH_apply, without_apply, cr, tyf, e19, nmB, implies_true, seval] <;> rfl) | rfl) ?_
    obtain rfl := kF _ h
    refine rr_tree ?_ ?_
    ·simp only [tre, tytre, Bool.and_self]
    ·first | (simp only [outV, upd_apply, updH_apply, without_apply, showV_ref, cr, tyf, nrm, tynrm, e19, nmB, implies_true, seval] <;> rfl) | rfl
end Go.V
end
section
namespace Go.V
open Go
set_option linter.unusedVariables false
set_option linter.unusedSimpArgs false
set_option linter.unusedSectionVars false
def faultO (k : Int) (o : Option Int) : Option (LOut (GSightFault × Bool) Unit) := match o with | none => some (.go ()) | some i => some (.ret (⟨k, i⟩, true))
section
variable (v : Gsightview) (hp : PG v.board.At v.SightPlace) (hw : PW v.power)
include hp hw
theorem ff_l0 : ∀ (p : List GSightBlock) (c : Int), (∀ k ∈ p, BK k) → g_sight_view_firstFault_l0 v p c = faultO 1 (fnd (behB v.board.At v.SightPlace) p c)
  | [], _, _ => rfl
  | e :: p, c, h => by
    simp only [g_sight_view_firstFault_l0, isBehind_eq v e hp (h e (List.mem_cons_self ..)), Option.bind_some, g_sight_must, fnd]
    cases behB v.board.At v.SightPlace e with
    | true => rfl
    | false => exact ff_l0 p (c + 1) (fun k hk => h k (List.mem_cons_of_mem _ hk))
theorem ff_l1 : ∀ (p : List GSightLetter) (c : Int), 0 ≤ c → v.board.Letters.drop c.toNat = p → (∀ l ∈ p, BL l) → g_sight_view_firstFault_l1 v p c = faultO 2 (fnd (fun l => !tallB v.power v.board.At v.SightPlace l) p c)
  | [], _, _, _, _ => rfl
  | e :: p, c, h0, hd, h => by
    simp only [g_sight_view_firstFault_l1, isTall_eq v c e hp hw (h e (List.mem_cons_self ..)) (getI_of_drop h0 hd), Option.bind_some, g_sight_must, fnd]
    cases tallB v.power v.board.At v.SightPlace e with
    | false => rfl
    | true => exact ff_l1 p (c + 1) (by omega) (drop_next h0 hd) (fun k hk => h k (List.mem_cons_of_mem _ hk))
theorem ff_l2 : ∀ (p : List GSightLetter) (c : Int), 0 ≤ c → v.board.Letters.drop c.toNat = p → (∀ l ∈ p, BL l) → g_sight_view_firstFault_l2 v p c = faultO 3 (fnd (fun l => !broadB v.power v.board.At v.SightPlace l) p c)
  | [], _, _, _, _ => rfl
  | e :: p, c, h0, hd, h => by
    simp only [g_sight_view_firstFault_l2, isBroad_eq v c e hp hw (h e (List.mem_cons_self ..)) (getI_of_drop h0 hd), Option.bind_some, g_sight_must, fnd]
    cases broadB v.power v.board.At v.SightPlace e with
    | false => rfl
    | true => exact ff_l2 p (c + 1) (by omega) (drop_next h0 hd) (fun k hk => h k (List.mem_cons_of_mem _ hk))
theorem ff_l3 : ∀ (p : List GSightLetter) (c : Int), 0 ≤ c → v.board.Letters.drop c.toNat = p → (∀ l ∈ p, BL l) → g_sight_view_firstFault_l3 v p c = faultO 4 (fnd (fun l => !thickB v.power v.board.At v.SightPlace l) p c)
  | [], _, _, _, _ => rfl
  | e :: p, c, h0, hd, h => by
    simp only [g_sight_view_firstFault_l3, isThick_eq v c e hp hw (h e (List.mem_cons_self ..)) (getI_of_drop h0 hd), Option.bind_some, g_sight_must, fnd]
    cases thickB v.power v.board.At v.SightPlace e with
    | false => rfl
    | true => exact ff_l3 p (c + 1) (by omega) (drop_next h0 hd) (fun k hk => h k (List.mem_cons_of_mem _ hk))
theorem ff_l4 : ∀ (k : Nat) (c : Int), 0 ≤ c → c + k ≤ v.board.Letters.length → (∀ l ∈ v.board.Letters, BL l) → g_sight_view_firstFault_l4 v k c = faultO 5 (fnd (fun l => !apartB v.power v.board.At v.SightPlace l) ((v.board.Letters.drop c.toNat).take k) c)
  | 0, _, _, _, _ => by simp only [g_sight_view_firstFault_l4, List.take_zero, fnd, faultO]
  | k + 1, c, h0, hk, h => by
    obtain ⟨e, he, hm⟩ := getI_some (xs := v.board.Letters) (i := c) h0 (by omega)
    have hd := (getI_drop he).2.2
    have hn : c.toNat + 1 = (c + 1).toNat := by omega
    rw [hd, List.take_succ_cons]
    simp only [g_sight_view_firstFault_l4, isApart_eq v c e hp hw (h e hm) he, Option.bind_some, g_sight_must, fnd, hn]
    cases apartB v.power v.board.At v.SightPlace e with
    | false => rfl
    | true => exact ff_l4 k (c + 1) (by omega) (by omega) h
end
def whyF (w a : Int) (p : GSightPlace) (ks : List GSightBlock) (ls : List GSightLetter) : Option GSightFault :=
  match fnd (behB a p) ks 0 with
  | some i => some ⟨1, i⟩
  | none => match fnd (fun l => !tallB w a p l) ls 0 with
    | some i => some ⟨2, i⟩
    | none => match fnd (fun l => !broadB w a p l) ls 0 with
      | some i => some ⟨3, i⟩
      | none => match fnd (fun l => !thickB w a p l) ls 0 with
        | some i => some ⟨4, i⟩
        | none => match fnd (fun l => !apartB w a p l) (ls.take (ls.length - 1)) 0 with
          | some i => some ⟨5, i⟩
          | none => none
def whyP (o : Option GSightFault) : GSightFault × Bool := match o with | some f => (f, true) | none => (⟨0, 0⟩, false)
theorem firstFault_eq (v : Gsightview) (hp : PG v.board.At v.SightPlace) (hw : PW v.power) (hl : ∀ l ∈ v.board.Letters, BL l) (hn : 1 ≤ v.board.Letters.length) (hn2 : v.board.Letters.length ≤ 5) (hk : ∀ k ∈ v.SightStreet.Blocks, BK k) (hb : v.SightStreet.Blocks.length ≤ 4) :
    g_sight_view_firstFault v = some (whyP (whyF v.power v.board.At v.SightPlace v.SightStreet.Blocks v.board.Letters)) := by
  have l1 : lenOk v.SightStreet.Blocks = true := lenOk_of (by omega)
  have l2 : lenOk v.board.Letters = true := lenOk_of (by omega)
  have w1 : IntKind.i64.wrap ((v.board.Letters.length : Int) - 1) = (v.board.Letters.length : Int) - 1 := wrap_eq (by omega) (by omega)
  have b1 : boundOk ((v.board.Letters.length : Int) - 1) = true := by unfold boundOk; exact decide_eq_true (by omega)
  have t1 : (((v.board.Letters.length : Int) - 1) - 0).toNat = v.board.Letters.length - 1 := by omega
  simp only [g_sight_view_firstFault, l1, l2, cond_true, ff_l0 v hp hw _ _ hk, ff_l1 v hp hw v.board.Letters 0 (by omega) rfl hl, ff_l2 v hp hw v.board.Letters 0 (by omega) rfl hl, ff_l3 v hp hw v.board.Letters 0 (by omega) rfl hl, w1, b1, t1, ff_l4 v hp hw (v.board.Letters.length - 1) 0 (by omega) (by omega) hl, whyF]
  cases fnd (behB v.board.At v.SightPlace) v.SightStreet.Blocks 0 with
  | some i => rfl
  | none =>
    simp only [faultO, lbind_go]
    cases fnd (fun l => !tallB v.power v.board.At v.SightPlace l) v.board.Letters 0 with
    | some i => rfl
    | none =>
      simp only [lbind_go]
      cases fnd (fun l => !broadB v.power v.board.At v.SightPlace l) v.board.Letters 0 with
      | some i => rfl
      | none =>
        simp only [lbind_go]
        cases fnd (fun l => !thickB v.power v.board.At v.SightPlace l) v.board.Letters 0 with
        | some i => rfl
        | none =>
          simp only [lbind_go]
          have e : List.drop (Int.toNat 0) v.board.Letters = v.board.Letters := rfl
          rw [e]
          cases fnd (fun l => !apartB v.power v.board.At v.SightPlace l) (v.board.Letters.take (v.board.Letters.length - 1)) 0 with
          | some i => rfl
          | none => rfl
def clearB (w a : Int) (p : GSightPlace) : List GSightLetter → Bool
  | [] => true
  | [e] => legB w a p e
  | e :: e' :: ls => legB w a p e && (apartB w a p e && clearB w a p (e' :: ls))
theorem clear_iff {w a : Int} {p : GSightPlace} : ∀ (ls : List GSightLetter), clearB w a p ls = true ↔ (∀ l ∈ ls, legB w a p l = true) ∧ ∀ l ∈ ls.take (ls.length - 1), apartB w a p l = true
  | [] => by simp [clearB]
  | [e] => by simp [clearB]
  | e :: e' :: ls => by
    have ih := clear_iff (w := w) (a := a) (p := p) (e' :: ls)
    have ht : (e :: e' :: ls).take ((e :: e' :: ls).length - 1) = e :: (e' :: ls).take ((e' :: ls).length - 1) := by simp
    rw [ht]
    unfold clearB
    rw [Bool.and_eq_true, Bool.and_eq_true, ih]
    constructor
    · rintro ⟨h1, h2, h3, h4⟩
      constructor
      · intro l hl
        rcases List.mem_cons.1 hl with rfl | hl
        · exact h1
        · exact h3 l hl
      · intro l hl
        rcases List.mem_cons.1 hl with rfl | hl
        · exact h2
        · exact h4 l hl
    · rintro ⟨h1, h2⟩
      exact ⟨h1 e (List.mem_cons_self ..), h2 e (List.mem_cons_self ..), fun l hl => h1 l (List.mem_cons_of_mem _ hl), fun l hl => h2 l (List.mem_cons_of_mem _ hl)⟩
theorem leg_iff {w a : Int} {p : GSightPlace} {l : GSightLetter} : legB w a p l = true ↔ tallB w a p l = true ∧ broadB w a p l = true ∧ thickB w a p l = true := by
  simp [legB]
theorem why_none {w a : Int} {p : GSightPlace} {ks : List GSightBlock} {ls : List GSightLetter} : whyF w a p ks ls = none ↔ (∀ k ∈ ks, behB a p k = false) ∧ clearB w a p ls = true := by
  rw [clear_iff]
  unfold whyF
  cases h0 : fnd (behB a p) ks 0 with
  | some i =>
    simp only [reduceCtorEq, false_iff, not_and]
    intro h
    rw [(fnd_none ks 0).2 h] at h0; cases h0
  | none =>
    have g0 := (fnd_none ks 0).1 h0
    cases h1 : fnd (fun l => !tallB w a p l) ls 0 with
    | some i =>
      simp only [reduceCtorEq, false_iff, not_and]
      intro _ h
      rw [(fnd_none ls 0).2 (fun l hl => by simp [(leg_iff.1 (h l hl)).1])] at h1; cases h1
    | none =>
      have g1 := (fnd_none ls 0).1 h1
      cases h2 : fnd (fun l => !broadB w a p l) ls 0 with
      | some i =>
        simp only [reduceCtorEq, false_iff, not_and]
        intro _ h
        rw [(fnd_none ls 0).2 (fun l hl => by simp [(leg_iff.1 (h l hl)).2.1])] at h2; cases h2
      | none =>
        have g2 := (fnd_none ls 0).1 h2
        cases h3 : fnd (fun l => !thickB w a p l) ls 0 with
        | some i =>
          simp only [reduceCtorEq, false_iff, not_and]
          intro _ h
          rw [(fnd_none ls 0).2 (fun l hl => by simp [(leg_iff.1 (h l hl)).2.2])] at h3; cases h3
        | none =>
          have g3 := (fnd_none ls 0).1 h3
          cases h4 : fnd (fun l => !apartB w a p l) (ls.take (ls.length - 1)) 0 with
          | some i =>
            simp only [reduceCtorEq, false_iff, not_and]
            intro _ _ h
            rw [(fnd_none _ 0).2 (fun l hl => by simp [h l hl])] at h4; cases h4
          | none =>
            have g4 := (fnd_none _ 0).1 h4
            simp only [true_iff]
            exact ⟨g0, fun l hl => leg_iff.2 ⟨by simpa using g1 l hl, by simpa using g2 l hl, by simpa using g3 l hl⟩, fun l hl => by simpa using g4 l hl⟩
def readB (w a : Int) (p : GSightPlace) (ks : List GSightBlock) (ls : List GSightLetter) : Bool := clearB w a p ls && ks.all (fun k => !behB a p k)
theorem isRead_eq (v : Gsightview) (hp : PG v.board.At v.SightPlace) (hw : PW v.power) (hl : ∀ l ∈ v.board.Letters, BL l) (hn : 1 ≤ v.board.Letters.length) (hn2 : v.board.Letters.length ≤ 5) (hk : ∀ k ∈ v.SightStreet.Blocks, BK k) (hb : v.SightStreet.Blocks.length ≤ 4) :
    g_sight_view_isRead v = some (readB v.power v.board.At v.SightPlace v.SightStreet.Blocks v.board.Letters) := by
  simp only [g_sight_view_isRead, firstFault_eq v hp hw hl hn hn2 hk hb, Option.bind_some, Option.some.injEq]
  cases h : whyF v.power v.board.At v.SightPlace v.SightStreet.Blocks v.board.Letters with
  | none =>
    have := why_none.1 h
    symm
    simp only [whyP, readB, this.2, Bool.true_and, Bool.not_false, List.all_eq_true]
    intro k hk; simp [this.1 k hk]
  | some f =>
    have hne : ¬ ((∀ k ∈ v.SightStreet.Blocks, behB v.board.At v.SightPlace k = false) ∧ clearB v.power v.board.At v.SightPlace v.board.Letters = true) := by
      rw [← why_none, h]; simp
    simp only [whyP, readB, Bool.not_true]
    symm
    rw [Bool.eq_false_iff]
    intro hr
    rw [Bool.and_eq_true, List.all_eq_true] at hr
    exact hne ⟨fun k hk => by simpa using hr.2 k hk, hr.1⟩
def hids {α : Type} (f : α → Bool) : List α → Int → List Int
  | [], _ => []
  | e :: p, i => cond (f e) (i :: hids f p (i + 1)) (hids f p (i + 1))
theorem hids_len {α : Type} {f : α → Bool} : ∀ (p : List α) (i : Int), (hids f p i).length ≤ p.length
  | [], _ => Nat.le_refl _
  | e :: p, i => by
    unfold hids
    have := hids_len (f := f) p (i + 1)
    cases f e <;> simp <;> omega
theorem hids_fnd {α : Type} {f : α → Bool} : ∀ (p : List α) (i : Int), (hids f p i)[0]? = fnd f p i
  | [], _ => rfl
  | e :: p, i => by
    unfold hids fnd
    cases f e
    · exact hids_fnd p (i + 1)
    · rfl
theorem hids_nil {α : Type} {f : α → Bool} (p : List α) (i : Int) : hids f p i = [] ↔ ∀ x ∈ p, f x = false := by
  rw [← fnd_none p i, ← hids_fnd]
  cases hids f p i <;> simp
theorem room_small {n : Nat} (b : Nat) (h : n ≤ 1000) (hb : b ≤ 100) : roomOk b n = true := by
  unfold roomOk
  refine decide_eq_true ?_
  have : n * b ≤ 1000 * 100 := Nat.mul_le_mul h hb
  omega
theorem refHidden_l0_eq (b : GSightBoard) (p : GSightPlace) (hp : PG b.At p) : ∀ (ks : List GSightBlock) (i : Int) (acc : List Int), (∀ k ∈ ks, BK k) → acc.length + ks.length ≤ 100 → g_ref02_Hidden_l0 b p ks i acc = some (.go (acc ++ hids (behB b.At p) ks i))
  | [], _, acc, _, _ => by simp [g_ref02_Hidden_l0, hids]
  | e :: ks, i, acc, h, hl => by
    have hk := refHidden_l0_eq b p hp ks
    simp only [List.length_cons] at hl
    simp only [g_ref02_Hidden_l0, refBlocks_eq e b.At p hp (h e (List.mem_cons_self ..)), Option.bind_some, hids]
    have ht : ∀ k ∈ ks, BK k := fun k hk => h k (List.mem_cons_of_mem _ hk)
    cases behB b.At p e with
    | true =>
      rw [room_small 8 (by simp; omega) (by omega)]
      simp only [cond_true]
      rw [hk (i + 1) (acc ++ [i]) ht (by simp; omega)]
      simp
    | false => exact hk (i + 1) acc ht (by omega)
theorem refHidden_eq (s : GSightStreet) (b : GSightBoard) (p : GSightPlace) (hp : PG b.At p) (hk : ∀ k ∈ s.Blocks, BK k) (hb : s.Blocks.length ≤ 4) : g_ref02_Hidden s b p = some (hids (behB b.At p) s.Blocks 0) := by
  have l1 : lenOk s.Blocks = true := lenOk_of (by omega)
  simp only [g_ref02_Hidden, l1, cond_true, refHidden_l0_eq b p hp s.Blocks 0 [] hk (by simp; omega), lbind_go, List.nil_append]
theorem faultK_zero {w a : Int} {p : GSightPlace} {l : GSightLetter} : (faultK w a p l != 0) = !legB w a p l := by
  unfold faultK legB
  cases tallB w a p l <;> cases broadB w a p l <;> cases thickB w a p l <;> rfl
theorem refClear_l0_eq (b : GSightBoard) (p : GSightPlace) (w : Int) (hp : PG b.At p) (hw : PW w) (hn2 : b.Letters.length ≤ 5) : ∀ (ls : List GSightLetter) (c : Int), 0 ≤ c → b.Letters.drop c.toNat = ls → (∀ l ∈ ls, BL l) → g_ref02_Clear_l0 b p w ls c = goB (clearB w b.At p ls)
  | [], _, _, _, _ => rfl
  | [e], c, h0, hd, h => by
    have hx := drop_next h0 hd
    have : decide (c + 1 < (b.Letters.length : Int)) = false := not_lt_of_drop (by omega) hx
    simp only [g_ref02_Clear_l0, refFault_eq e b.At p w hp hw (h e (List.mem_cons_self ..)), Option.bind_some, faultK_zero, this, cond_false, clearB, cnot, goB]
  | e :: e' :: ls, c, h0, hd, h => by
    have hx := drop_next h0 hd
    have : decide (c + 1 < (b.Letters.length : Int)) = true := lt_of_drop (by omega) hx
    have ih := refClear_l0_eq b p w hp hw hn2 (e' :: ls) (c + 1) (by omega) hx (fun l hl => h l (List.mem_cons_of_mem _ hl))
    have he := h e (List.mem_cons_self ..)
    unfold g_ref02_Clear_l0 clearB
    simp only [refFault_eq e b.At p w hp hw he, refMelts_eq e b.At p w hp hw he, Option.bind_some, faultK_zero, this, cond_true, ih, goB_and, cnot]
theorem refClear_eq (b : GSightBoard) (p : GSightPlace) (w : Int) (hp : PG b.At p) (hw : PW w) (hl : ∀ l ∈ b.Letters, BL l) (hn2 : b.Letters.length ≤ 5) : g_ref02_Clear b p w = some (clearB w b.At p b.Letters) := by
  have l2 : lenOk b.Letters = true := lenOk_of (by omega)
  simp only [g_ref02_Clear, l2, cond_true, refClear_l0_eq b p w hp hw hn2 b.Letters 0 (by omega) rfl hl, goB_lbind]
  cases clearB w b.At p b.Letters <;> rfl
theorem hids_beq {α : Type} {f : α → Bool} (p : List α) (i : Int) : (((hids f p i).length : Int) == 0) = p.all (fun x => !f x) := by
  by_cases h : hids f p i = []
  · have := (hids_nil p i).1 h
    rw [h]
    symm
    simp only [List.length_nil]
    rw [show (((0 : Nat) : Int) == 0) = true from rfl, List.all_eq_true]
    intro x hx; simp [this x hx]
  · have hl : (hids f p i).length ≠ 0 := fun hh => h (List.length_eq_zero_iff.1 hh)
    have : (((hids f p i).length : Int) == 0) = false := by simp only [beq_eq_false_iff_ne, ne_eq]; omega
    rw [this]
    symm
    rw [Bool.eq_false_iff]
    intro ha
    rw [List.all_eq_true] at ha
    exact h ((hids_nil p i).2 (fun x hx => by simpa using ha x hx))
theorem mayhids {f : GSightBlock → Bool} (ks : List GSightBlock) : ∀ (p : List GSightBlock) (i c : Int) (s : GSightStreet), s.Blocks = ks → 0 ≤ i → ks.drop i.toNat = p → g_ref02_May_l0 s (hids f p i) c = goB (p.all (fun k => !(f k && k.Sure)))
  | [], _, _, _, _, _, _ => rfl
  | e :: p, i, c, s, hs, h0, hd => by
    have ih := mayhids (f := f) ks p (i + 1)
    have hx := drop_next h0 hd
    unfold hids
    rw [List.all_cons, goB_and]
    cases hf : f e with
    | false =>
      simp only [cond_false, Bool.false_and, Bool.not_false, cond_true]
      exact ih c s hs (by omega) hx
    | true =>
      simp only [cond_true, Bool.true_and, g_ref02_May_l0, hs, getI_of_drop h0 hd, Option.bind_some, cnot]
      rw [ih (c + 1) s hs (by omega) hx]
theorem goods {s : GSightStreet} {b : GSightBoard} {p : GSightPlace} (h : Good s b p) : PG b.At p ∧ (∀ l ∈ b.Letters, BL l) ∧ (∀ k ∈ s.Blocks, BK k) ∧ PW (s.Eye.Low * s.Light.Low) ∧ PW (s.Eye.High * s.Light.High) := by
  refine ⟨⟨h.a0, h.a1, h.p0, h.p1, h.q0, h.q1⟩, ?_, h.blks, ?_, ?_⟩
  · intro l hl
    have := h.lets l hl
    simp only [letterB, Bool.and_eq_true, inB_iff] at this
    unfold BL; omega
  · have h1 := h.el; have h2 := h.em; have h3 := h.eh; have h4 := h.ll; have h5 := h.lm; have h6 := h.lh
    exact mulR (a := s.Eye.Low) (A := 40) (b := s.Light.Low) (B := 100) (by omega) (by omega) (by omega) (by omega)
  · have h1 := h.el; have h2 := h.em; have h3 := h.eh; have h4 := h.ll; have h5 := h.lm; have h6 := h.lh
    exact mulR (a := s.Eye.High) (A := 40) (b := s.Light.High) (B := 100) (by omega) (by omega) (by omega) (by omega)
theorem pw_wrap {w : Int} (h : PW w) : IntKind.i64.wrap w = w := wrap_eq (by unfold PW at h; omega) (by unfold PW at h; omega)
def sureB (s : GSightStreet) (b : GSightBoard) (p : GSightPlace) : Bool := clearB (s.Eye.Low * s.Light.Low) b.At p b.Letters && s.Blocks.all (fun k => !behB b.At p k)
def mayB (s : GSightStreet) (b : GSightBoard) (p : GSightPlace) : Bool := clearB (s.Eye.High * s.Light.High) b.At p b.Letters && s.Blocks.all (fun k => !(behB b.At p k && k.Sure))
def seenI (s : GSightStreet) (b : GSightBoard) (p : GSightPlace) : Int := cond (sureB s b p) 3 (cond (mayB s b p) 2 1)
theorem refSeen_eq (s : GSightStreet) (b : GSightBoard) (p : GSightPlace) (h : Good s b p) : g_ref02_Seen s b p = some (seenI s b p) := by
  obtain ⟨hp, hl, hk, w1, w2⟩ := goods h
  have hb := h.nb
  have hh := refHidden_eq s b p hp hk hb
  have l1 : lenOk (hids (behB b.At p) s.Blocks 0) = true := lenOk_of (by have := hids_len (f := behB b.At p) s.Blocks 0; omega)
  have hm := mayhids (f := behB b.At p) s.Blocks s.Blocks 0 0 s rfl (by omega) rfl
  simp only [g_ref02_Seen, g_ref02_Surely, g_ref02_May, g_ref02_word, pw_wrap w1, pw_wrap w2, refClear_eq b p _ hp w1 hl h.n5, refClear_eq b p _ hp w2 hl h.n5, hh, Option.bind_some, hids_beq, csome, l1, cond_true, hm, goB_lbind, seenI, sureB, mayB]
  cases clearB (s.Eye.Low * s.Light.Low) b.At p b.Letters <;> cases s.Blocks.all (fun k => !behB b.At p k) <;> cases s.Blocks.all (fun k => !(behB b.At p k && k.Sure)) <;> cases clearB (s.Eye.High * s.Light.High) b.At p b.Letters <;> rfl
theorem atBest_l0_eq : ∀ (ks : List GSightBlock) (i : Int) (acc : List GSightBlock), acc.length + ks.length ≤ 100 → g_sight_atBest_l0 ks i acc = some (.go (acc ++ ks.filter (fun k => k.Sure)))
  | [], _, acc, _ => by simp [g_sight_atBest_l0]
  | e :: ks, i, acc, hl => by
    simp only [List.length_cons] at hl
    simp only [g_sight_atBest_l0, List.filter_cons]
    cases e.Sure with
    | true =>
      rw [room_small 40 (by simp; omega) (by omega)]
      simp only [cond_true, if_pos]
      rw [atBest_l0_eq ks (i + 1) (acc ++ [e]) (by simp; omega)]
      simp
    | false => exact atBest_l0_eq ks (i + 1) acc (by omega)
theorem filter_len {ks : List GSightBlock} : (ks.filter (fun k => k.Sure)).length ≤ ks.length := List.length_filter_le ..
theorem seen_eq (s : GSightStreet) (b : GSightBoard) (p : GSightPlace) (h : Good s b p) : g_sight_seen s b p = some (seenI s b p) := by
  obtain ⟨hp, hl, hk, w1, w2⟩ := goods h
  have hb := h.nb
  have l1 : lenOk s.Blocks = true := lenOk_of (by omega)
  have r1 := isRead_eq ⟨s, p, b, s.Eye.Low * s.Light.Low⟩ hp w1 hl h.n1 h.n5 hk hb
  have r2 := isRead_eq ⟨⟨s.Length, s.Width, s.Eye, s.Light, s.Boards, s.Blocks.filter (fun k => k.Sure)⟩, p, b, s.Eye.High * s.Light.High⟩ hp w2 hl h.n1 h.n5 (fun k hk' => hk k (List.mem_filter.1 hk').1) (Nat.le_trans filter_len hb)
  simp only [readB] at r1 r2
  have e : (s.Blocks.filter (fun k => k.Sure)).all (fun k => !behB b.At p k) = s.Blocks.all (fun k => !(behB b.At p k && k.Sure)) := by
    rw [List.all_filter]
    congr 1
    funext k
    cases behB b.At p k <;> cases k.Sure <;> rfl
  rw [e] at r2
  simp only [g_sight_seen, g_sight_isSurelyRead, g_sight_atWorst, g_sight_atBest, pw_wrap w1, pw_wrap w2, l1, cond_true, atBest_l0_eq s.Blocks 0 [] (by simp; omega), List.nil_append, lbind_go, Option.bind_some, r1, r2, seenI, sureB, mayB]
  cases (clearB (s.Eye.Low * s.Light.Low) b.At p b.Letters && s.Blocks.all (fun k => !behB b.At p k)) <;> cases (clearB (s.Eye.High * s.Light.High) b.At p b.Letters && s.Blocks.all (fun k => !(behB b.At p k && k.Sure))) <;> rfl
theorem Seen_eq (s : GSightStreet) (n : Int) (p : GSightPlace) (h : FineS s) : (∃ b, getI s.Boards n = some b ∧ b ∈ s.Boards ∧ Good s b p ∧ streetB s = true ∧ numB s n = true ∧ placeB s p = true ∧ g_sight_Seen s n p = some (seenI s b p, 0)) ∨ ((streetB s && (numB s n && placeB s p)) = false ∧ g_sight_Seen s n p = some (0, 2)) := by
  simp only [g_sight_Seen, isView_eq s n p h, Option.bind_some]
  cases h1 : streetB s with
  | false => exact .inr ⟨rfl, rfl⟩
  | true =>
    cases h2 : numB s n with
    | false => exact .inr ⟨rfl, rfl⟩
    | true =>
      cases h3 : placeB s p with
      | false => exact .inr ⟨rfl, rfl⟩
      | true =>
        obtain ⟨b, b1, b2, b3⟩ := good_of h1 h2 h3
        refine .inl ⟨b, b1, b2, b3, rfl, rfl, rfl, ?_⟩
        simp only [Bool.and_self, cond_true, b1, Option.bind_some, seen_eq s b p b3]
end Go.V
end
section
namespace Go.V
open Go Go.Proofs
theorem hmix : Tryz.prog.follows .mixedOrders = true := by kernel_rfl
def kS : VV := (Go.V.VV.agg [(Go.V.VV.lit (Go.Value.int Go.IntKind.i64 (Int.ofNat 20))), (Go.V.VV.lit (Go.Value.int Go.IntKind.i64 (Int.ofNat 6))), (Go.V.VV.lit (Go.Value.int Go.IntKind.i64 (Int.ofNat 4))), (Go.V.VV.lit (Go.Value.int Go.IntKind.i64 (Int.ofNat 6))), (Go.V.VV.lit (Go.Value.int Go.IntKind.i64 (Int.ofNat 50))), (Go.V.VV.lit (Go.Value.int Go.IntKind.i64 (Int.ofNat 100))), (Go.V.VV.sl [(Go.V.VV.lit (Go.Value.int Go.IntKind.i64 (Int.ofNat 10))), (Go.V.VV.sl [(Go.V.VV.lit (Go.Value.int Go.IntKind.i64 (Int.ofNat 6))), (Go.V.VV.lit (Go.Value.int Go.IntKind.i64 (Int.ofNat 4))), (Go.V.VV.lit (Go.Value.int Go.IntKind.i64 (Int.ofNat 1))), (Go.V.VV.lit (Go.Value.int Go.IntKind.i64 (Int.ofNat 1))), (Go.V.VV.lit (Go.Value.int Go.IntKind.i64 (Int.ofNat 8))), (Go.V.VV.lit (Go.Value.int Go.IntKind.i64 (Int.ofNat 5))), (Go.V.VV.lit (Go.Value.int Go.IntKind.i64 (Int.ofNat 2))), (Go.V.VV.lit (Go.Value.int Go.IntKind.i64 (Int.ofNat 0)))] 2 Bool.false), (Go.V.VV.lit (Go.Value.int Go.IntKind.i64 (Int.ofNat 0))), (Go.V.VV.sl [(Go.V.VV.lit (Go.Value.int Go.IntKind.i64 (Int.ofNat 10))), (Go.V.VV.lit (Go.Value.int Go.IntKind.i64 (Int.ofNat 10))), (Go.V.VV.lit (Go.Value.int Go.IntKind.i64 (Int.ofNat 2))), (Go.V.VV.lit (Go.Value.int Go.IntKind.i64 (Int.ofNat 0)))] 1 Bool.false)] 2 Bool.false), (Go.V.VV.sl [(Go.V.VV.lit (Go.Value.int Go.IntKind.i64 (Int.ofNat 12))), (Go.V.VV.lit (Go.Value.int Go.IntKind.i64 (Int.ofNat 13))), (Go.V.VV.lit (Go.Value.int Go.IntKind.i64 (Int.ofNat 2))), (Go.V.VV.lit (Go.Value.int Go.IntKind.i64 (Int.ofNat 3))), (Go.V.VV.lit (Go.Value.bool Bool.true)), (Go.V.VV.lit (Go.Value.int Go.IntKind.i64 (Int.ofNat 5))), (Go.V.VV.lit (Go.Value.int Go.IntKind.i64 (Int.ofNat 6))), (Go.V.VV.lit (Go.Value.int Go.IntKind.i64 (Int.ofNat 4))), (Go.V.VV.lit (Go.Value.int Go.IntKind.i64 (Int.ofNat 5))), (Go.V.VV.lit (Go.Value.bool Bool.false))] 2 Bool.false)])
def kT : VV := (Go.V.VV.agg [(Go.V.VV.lit (Go.Value.int Go.IntKind.i64 (Int.ofNat 4))), (Go.V.VV.lit (Go.Value.int Go.IntKind.i64 (Int.ofNat 2))), (Go.V.VV.lit (Go.Value.int Go.IntKind.i64 (Int.ofNat 1))), (Go.V.VV.lit (Go.Value.int Go.IntKind.i64 (Int.ofNat 1))), (Go.V.VV.lit (Go.Value.int Go.IntKind.i64 (Int.ofNat 100))), (Go.V.VV.lit (Go.Value.int Go.IntKind.i64 (Int.ofNat 100))), (Go.V.VV.sl [(Go.V.VV.lit (Go.Value.int Go.IntKind.i64 (Int.ofNat 0))), (Go.V.VV.sl [(Go.V.VV.lit (Go.Value.int Go.IntKind.i64 (Int.ofNat 3))), (Go.V.VV.lit (Go.Value.int Go.IntKind.i64 (Int.ofNat 2))), (Go.V.VV.lit (Go.Value.int Go.IntKind.i64 (Int.ofNat 1))), (Go.V.VV.lit (Go.Value.int Go.IntKind.i64 (Int.ofNat 0)))] 1 Bool.false)] 1 Bool.false), (Go.V.VV.lit (Go.Value.slice Option.none 0 0))])
def kAt46 : VV := (Go.V.VV.agg [(Go.V.VV.lit (Go.Value.int Go.IntKind.i64 (Int.ofNat 4))), (Go.V.VV.lit (Go.Value.int Go.IntKind.i64 (Int.ofNat 6)))])
def kAt41 : VV := (Go.V.VV.agg [(Go.V.VV.lit (Go.Value.int Go.IntKind.i64 (Int.ofNat 4))), (Go.V.VV.lit (Go.Value.int Go.IntKind.i64 (Int.ofNat 1)))])
def kAt201 : VV := (Go.V.VV.agg [(Go.V.VV.lit (Go.Value.int Go.IntKind.i64 (Int.ofNat 20))), (Go.V.VV.lit (Go.Value.int Go.IntKind.i64 (Int.ofNat 1)))])
def kAt166 : VV := (Go.V.VV.agg [(Go.V.VV.lit (Go.Value.int Go.IntKind.i64 (Int.ofNat 16))), (Go.V.VV.lit (Go.Value.int Go.IntKind.i64 (Int.ofNat 6)))])
def kAt106 : VV := (Go.V.VV.agg [(Go.V.VV.lit (Go.Value.int Go.IntKind.i64 (Int.ofNat 10))), (Go.V.VV.lit (Go.Value.int Go.IntKind.i64 (Int.ofNat 6)))])
def kSeen : VV := (Go.V.VV.tup [(Go.V.VV.lit (Go.Value.int Go.IntKind.i64 (Int.ofNat 2))), (Go.V.VV.lit (Go.Value.int Go.IntKind.i64 (Int.ofNat 0)))])
def kWhy : VV := (Go.V.VV.tup [(Go.V.VV.agg [(Go.V.VV.lit (Go.Value.int Go.IntKind.i64 (Int.ofNat 3))), (Go.V.VV.lit (Go.Value.int Go.IntKind.i64 (Int.ofNat 0)))]), (Go.V.VV.lit (Go.Value.int Go.IntKind.i64 (Int.ofNat 0)))])
def kLetters : VV := (Go.V.VV.tup [(Go.V.VV.sl [(Go.V.VV.lit (Go.Value.int Go.IntKind.i64 (Int.ofNat 2))), (Go.V.VV.lit (Go.Value.int Go.IntKind.i64 (Int.ofNat 2)))] 2 Bool.false), (Go.V.VV.lit (Go.Value.int Go.IntKind.i64 (Int.ofNat 0)))])
def kMelts : VV := (Go.V.VV.tup [(Go.V.VV.sl [(Go.V.VV.lit (Go.Value.int Go.IntKind.i64 (Int.ofNat 3)))] 1 Bool.false), (Go.V.VV.lit (Go.Value.int Go.IntKind.i64 (Int.ofNat 0)))])
def kHidden : VV := (Go.V.VV.tup [(Go.V.VV.sl [(Go.V.VV.lit (Go.Value.int Go.IntKind.i64 (Int.ofNat 0)))] 1 Bool.false), (Go.V.VV.lit (Go.Value.int Go.IntKind.i64 (Int.ofNat 0)))])
def kMany : VV := (Go.V.VV.tup [(Go.V.VV.lit (Go.Value.int Go.IntKind.i64 (Int.ofNat 3))), (Go.V.VV.lit (Go.Value.int Go.IntKind.i64 (Int.ofNat 3))), (Go.V.VV.lit (Go.Value.int Go.IntKind.i64 (Int.ofNat 0)))])
def kFarthest : VV := (Go.V.VV.tup [(Go.V.VV.agg [(Go.V.VV.lit (Go.Value.int Go.IntKind.i64 (Int.ofNat 0))), (Go.V.VV.lit (Go.Value.int Go.IntKind.i64 (Int.ofNat 2)))]), (Go.V.VV.lit (Go.Value.int Go.IntKind.i64 (Int.ofNat 0)))])
def kLeast : VV := (Go.V.VV.tup [(Go.V.VV.lit (Go.Value.int Go.IntKind.i64 (Int.ofNat 5))), (Go.V.VV.lit (Go.Value.int Go.IntKind.i64 (Int.ofNat 0)))])
def kLight : VV := (Go.V.VV.tup [(Go.V.VV.lit (Go.Value.int Go.IntKind.i64 (Int.ofNat 38))), (Go.V.VV.lit (Go.Value.int Go.IntKind.i64 (Int.ofNat 0)))])
def kHang : VV := (Go.V.VV.tup [(Go.V.VV.lit (Go.Value.int Go.IntKind.i64 (Int.ofNat 1))), (Go.V.VV.lit (Go.Value.int Go.IntKind.i64 (Int.ofNat 4))), (Go.V.VV.lit (Go.Value.int Go.IntKind.i64 (Int.ofNat 0)))])
def kRead : VV := (Go.V.VV.tup [(Go.V.VV.agg [(Go.V.VV.lit (Go.Value.int Go.IntKind.i64 (Int.ofNat 1))), (Go.V.VV.lit (Go.Value.int Go.IntKind.i64 (Int.ofNat 1))), (Go.V.VV.lit (Go.Value.int Go.IntKind.i64 (Int.ofNat 1))), (Go.V.VV.lit (Go.Value.int Go.IntKind.i64 (Int.ofNat 1))), (Go.V.VV.lit (Go.Value.int Go.IntKind.i64 (Int.ofNat 1))), (Go.V.VV.lit (Go.Value.int Go.IntKind.i64 (Int.ofNat 1))), (Go.V.VV.sl [(Go.V.VV.lit (Go.Value.int Go.IntKind.i64 (Int.ofNat 0))), (Go.V.VV.sl [(Go.V.VV.lit (Go.Value.int Go.IntKind.i64 (Int.ofNat 1))), (Go.V.VV.lit (Go.Value.int Go.IntKind.i64 (Int.ofNat 1))), (Go.V.VV.lit (Go.Value.int Go.IntKind.i64 (Int.ofNat 1))), (Go.V.VV.lit (Go.Value.int Go.IntKind.i64 (Int.ofNat 0)))] 1 Bool.false)] 1 Bool.false), (Go.V.VV.lit (Go.Value.slice Option.none 0 0))]), (Go.V.VV.lit (Go.Value.int Go.IntKind.i64 (Int.ofNat 0)))])
end Go.V
end
section
namespace Go.V
open Go Go.Proofs
theorem pS : VPure Tryz.prog G0 50 [] (.tree kS) := VPure.closedB hmix 1000 (by kernel_rfl)
theorem pT : VPure Tryz.prog G0 51 [] (.tree kT) := VPure.closedB hmix 1000 (by kernel_rfl)
theorem pAt46 : VPure Tryz.prog G0 49 [.lit (.int .i64 (4)), .lit (.int .i64 (6))] (.tree kAt46) := VPure.closedB hmix 1000 (by kernel_rfl)
theorem pAt41 : VPure Tryz.prog G0 49 [.lit (.int .i64 (4)), .lit (.int .i64 (1))] (.tree kAt41) := VPure.closedB hmix 1000 (by kernel_rfl)
theorem pAt201 : VPure Tryz.prog G0 49 [.lit (.int .i64 (20)), .lit (.int .i64 (1))] (.tree kAt201) := VPure.closedB hmix 1000 (by kernel_rfl)
theorem pAt166 : VPure Tryz.prog G0 49 [.lit (.int .i64 (16)), .lit (.int .i64 (6))] (.tree kAt166) := VPure.closedB hmix 1000 (by kernel_rfl)
theorem pAt106 : VPure Tryz.prog G0 49 [.lit (.int .i64 (10)), .lit (.int .i64 (6))] (.tree kAt106) := VPure.closedB hmix 1000 (by kernel_rfl)
theorem pSeen : VPure Tryz.prog G0 18 [kS, .lit (.int .i64 (0)), kAt46] (.tree kSeen) := VPure.closedB hmix 1000 (by kernel_rfl)
theorem pWhy : VPure Tryz.prog G0 26 [kS, .lit (.int .i64 (0)), kAt41] (.tree kWhy) := VPure.closedB hmix 1000 (by kernel_rfl)
theorem pLetters : VPure Tryz.prog G0 28 [kS, .lit (.int .i64 (0)), kAt46] (.tree kLetters) := VPure.closedB hmix 1000 (by kernel_rfl)
theorem pMelts : VPure Tryz.prog G0 29 [kS, .lit (.int .i64 (0)), kAt201] (.tree kMelts) := VPure.closedB hmix 1000 (by kernel_rfl)
theorem pHidden : VPure Tryz.prog G0 30 [kS, .lit (.int .i64 (0)), kAt166] (.tree kHidden) := VPure.closedB hmix 1000 (by kernel_rfl)
end Go.V
end
section
namespace Go.V
open Go Go.Proofs
theorem pMany : VPure Tryz.prog G0 36 [kT, .lit (.int .i64 (0))] (.tree kMany) := VPure.closedB hmix 1000 (by kernel_rfl)
theorem pFarthest : VPure Tryz.prog G0 37 [kT, .lit (.int .i64 (0))] (.tree kFarthest) := VPure.closedB hmix 1000 (by kernel_rfl)
theorem pLeast : VPure Tryz.prog G0 41 [kS, .lit (.int .i64 (0)), kAt41] (.tree kLeast) := VPure.closedB hmix 1000 (by kernel_rfl)
theorem pLight : VPure Tryz.prog G0 42 [kS, .lit (.int .i64 (0)), kAt106] (.tree kLight) := VPure.closedB hmix 1000 (by kernel_rfl)
end Go.V
end
section
namespace Go.V
open Go Go.Proofs
theorem pHang : VPure Tryz.prog G0 52 [kT, .lit (.int .i64 (0))] (.tree kHang) := VPure.closedB hmix 1000 (by kernel_rfl)
end Go.V
end
section
namespace Go.V
open Go Go.Proofs
theorem pRead : VPure Tryz.prog G0 53 [.lit (.string ⟨⟨[115, 105, 103, 104, 116, 32, 49, 32, 49, 32, 49, 32, 49, 32, 49, 32, 49, 10, 98, 111, 97, 114, 100, 32, 48, 10, 108, 101, 116, 116, 101, 114, 32, 49, 32, 49, 32, 49, 32, 48, 10, 101, 110, 100, 32, 48, 49, 57, 10]⟩⟩)] (.tree kRead) := VPure.closedB hmix 1000 (by kernel_rfl)
end Go.V
end
section
namespace Go.V
open Go Go.Proofs
def kTab : KTab := [
  (50, [], kS),
  (51, [], kT),
  (49, [.lit (.int .i64 (4)), .lit (.int .i64 (6))], kAt46),
  (49, [.lit (.int .i64 (4)), .lit (.int .i64 (1))], kAt41),
  (49, [.lit (.int .i64 (20)), .lit (.int .i64 (1))], kAt201),
  (49, [.lit (.int .i64 (16)), .lit (.int .i64 (6))], kAt166),
  (49, [.lit (.int .i64 (10)), .lit (.int .i64 (6))], kAt106),
  (18, [kS, .lit (.int .i64 (0)), kAt46], kSeen),
  (26, [kS, .lit (.int .i64 (0)), kAt41], kWhy),
  (28, [kS, .lit (.int .i64 (0)), kAt46], kLetters),
  (29, [kS, .lit (.int .i64 (0)), kAt201], kMelts),
  (30, [kS, .lit (.int .i64 (0)), kAt166], kHidden),
  (36, [kT, .lit (.int .i64 (0))], kMany),
  (37, [kT, .lit (.int .i64 (0))], kFarthest),
  (41, [kS, .lit (.int .i64 (0)), kAt41], kLeast),
  (42, [kS, .lit (.int .i64 (0)), kAt106], kLight),
  (52, [kT, .lit (.int .i64 (0))], kHang),
  (53, [.lit (.string ⟨⟨[115, 105, 103, 104, 116, 32, 49, 32, 49, 32, 49, 32, 49, 32, 49, 32, 49, 10, 98, 111, 97, 114, 100, 32, 48, 10, 108, 101, 116, 116, 101, 114, 32, 49, 32, 49, 32, 49, 32, 48, 10, 101, 110, 100, 32, 48, 49, 57, 10]⟩⟩)], kRead)]
theorem kTabOk : KTabOk Tryz.prog G0 kTab := ⟨⟨by kernel_rfl, pS⟩, ⟨⟨by kernel_rfl, pT⟩, ⟨⟨by kernel_rfl, pAt46⟩, ⟨⟨by kernel_rfl, pAt41⟩, ⟨⟨by kernel_rfl, pAt201⟩, ⟨⟨by kernel_rfl, pAt166⟩, ⟨⟨by kernel_rfl, pAt106⟩, ⟨⟨by kernel_rfl, pSeen⟩, ⟨⟨by kernel_rfl, pWhy⟩, ⟨⟨by kernel_rfl, pLetters⟩, ⟨⟨by kernel_rfl, pMelts⟩, ⟨⟨by kernel_rfl, pHidden⟩, ⟨⟨by kernel_rfl, pMany⟩, ⟨⟨by kernel_rfl, pFarthest⟩, ⟨⟨by kernel_rfl, pLeast⟩, ⟨⟨by kernel_rfl, pLight⟩, ⟨⟨by kernel_rfl, pHang⟩, ⟨⟨by kernel_rfl, pRead⟩, trivial⟩⟩⟩⟩⟩⟩⟩⟩⟩⟩⟩⟩⟩⟩⟩⟩⟩⟩
theorem pKnown : VPure Tryz.prog G0 16 [] (.tree (.lit (.bool true))) := VPure.closedT hmix kTabOk 1000 (by kernel_rfl)
#print axioms pKnown
end Go.V
end
section
namespace Go.V
open Go Go.Proofs
def g_law02_known : Option Bool := some true
theorem g_law02_known_ok (R : Bool) (h : g_law02_known = some R) : VPure Tryz.prog G0 16 [] (.tree (.lit (.bool R))) := by
  cases h
  exact pKnown
end Go.V
end
