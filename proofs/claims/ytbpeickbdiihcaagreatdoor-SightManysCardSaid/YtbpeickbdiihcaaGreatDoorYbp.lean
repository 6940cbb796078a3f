/- Part of a proof: a logic of values by content, lifted functions, what follows. -/
import Derived.Test.YtbpeickbdiihcaaGreatDoorYbf
import Derived.Test.YtbpeickbdiihcaaGreatDoorYbn
import Derived.Test.YtbpeickbdiihcaaGreatDoorYbi
import Derived.Test.YtbpeickbdiihcaaGreatDoorYbj
import Derived.Test.YtbpeickbdiihcaaGreatDoorYbl
import Derived.Test.YtbpeickbdiihcaaGreatDoorYbm
set_option linter.all false
set_option maxRecDepth 4000
set_option maxHeartbeats 4000000
section
namespace Go.V
open Go Go.Proofs
def g_sight_Farthest_l1 (x0_s : GSightStreet) (x3 : GSightBoard) (c0_8 : Int) : Nat → Int → Int → Int → Bool → Option (LOut (Unit) (Int × Int × Bool))
 | 0, c1_13, c1_o0, c1_o1, c1_o2 => some (.go (c1_o0, c1_o1, c1_o2))
 | k1 + 1, c1_13, c1_o0, c1_o1, c1_o2 => Option.bind (g_sight_isSurelyRead x0_s x3 (GSightPlace.mk c0_8 (c1_13 + 1))) (fun r12 => cond (r12) (cond (c1_o2) (Option.bind (g_sight_atWorst x0_s x3 (GSightPlace.mk c0_8 (c1_13 + 1))) (fun r13 => Option.bind (g_sight_view_far r13) (fun r14 => Option.bind (g_sight_atWorst x0_s x3 (GSightPlace.mk c1_o0 c1_o1)) (fun r15 => Option.bind (g_sight_view_far r15) (fun r16 => cond (decide (r14 > r16)) (g_sight_Farthest_l1 x0_s x3 c0_8 k1 (c1_13 + 1) c0_8 (c1_13 + 1) true) (g_sight_Farthest_l1 x0_s x3 c0_8 k1 (c1_13 + 1) c1_o0 c1_o1 true)))))) (g_sight_Farthest_l1 x0_s x3 c0_8 k1 (c1_13 + 1) c0_8 (c1_13 + 1) true)) (g_sight_Farthest_l1 x0_s x3 c0_8 k1 (c1_13 + 1) c1_o0 c1_o1 c1_o2))
def g_sight_Farthest_l0 (x0_s : GSightStreet) (x3 : GSightBoard) : Nat → Int → Int → Int → Bool → Option (LOut (Unit) (Int × Int × Bool))
 | 0, c0_8, c0_o0, c0_o1, c0_o2 => some (.go (c0_o0, c0_o1, c0_o2))
 | k0 + 1, c0_8, c0_o0, c0_o1, c0_o2 => cond (boundOk x0_s.Width) (lbind (g_sight_Farthest_l1 x0_s x3 c0_8 (Int.toNat (x0_s.Width - 0)) 0 c0_o0 c0_o1 c0_o2) (fun r18 => some (.ret r18)) (fun c17 => g_sight_Farthest_l0 x0_s x3 k0 (c0_8 + 1) c17.1 c17.2.1 c17.2.2) (fun _ _ => none)) none
def g_sight_Farthest (x0_s : GSightStreet) (x1_board : Int) : Option (GSightPlace × Int) := Option.bind (g_sight_isStreet x0_s) (fun r1 => cond (r1) (Option.bind (g_sight_isBoard x0_s x1_board) (fun r2 => cond (r2) (Option.bind (getI x0_s.Boards x1_board) (fun x3 => cond (boundOk (IntKind.i64.wrap (x0_s.Length + 1))) (lbind (g_sight_Farthest_l0 x0_s x3 (Int.toNat ((IntKind.i64.wrap (x0_s.Length + 1)) - 0)) 0 0 0 false) (fun r20 => some ((GSightPlace.mk 0 0), 5)) (fun c19 => cond (c19.2.2) (some ((GSightPlace.mk c19.1 c19.2.1), 0)) (some ((GSightPlace.mk 0 0), 5))) (fun _ _ => none)) none)) (some ((GSightPlace.mk 0 0), 2)))) (some ((GSightPlace.mk 0 0), 2)))
theorem g_sight_Farthest_ok (x0_s : GSightStreet) (x1_board : Int) (R : GSightPlace × Int) (h : g_sight_Farthest x0_s x1_board = some R) : VPure Tryz.prog G0 37 [.agg (cGSightStreet x0_s), .lit (.int .i64 x1_board)] (.tree (.tup [.agg (cGSightPlace R.1), .lit (.int .i64 R.2)])) := by
 refine VPure.runR mixed Tryz.call37 Tryz.func37 rfl (by simp [Tryz.ntmps37]; kernel_rfl) ?_
 obtain ⟨KF, h, kF, kN⟩ := fun_intro h
 simp only [g_sight_Farthest] at h
 cases o22 : (g_sight_isStreet x0_s) with
 | none =>
  simp only [o22, hs, reduceCtorEq] at h
  exact absurd h kN
 | some r21 =>
  simp only [o22, hs, reduceCtorEq] at h
  simp only [vz, tyf, nm, seval]
  refine ktree (args0 := [.agg (cGSightStreet x0_s)]) (by first | (simp only [nrm, tynrm] <;> rfl) | rfl) (by simp only [tre, tytre, Bool.and_self]) (g_sight_isStreet_ok _ _ o22) ?_
  refine fin_cut (fun tm => tm 1 = .lit (.int .i64 x1_board) ∧ tm 2 = .ptr 0 0 ∧ tm 4 = .ptr 1 0 ∧ tm 11 = .lit (.bool r21) ∧ True) (by refine ⟨?_, ?_, ?_, ?_, trivial⟩ <;> first | (simp only [ua, nm, seval] <;> rfl) | rfl) ?_
  rintro tm ⟨e23, e24, e25, e26, _⟩
  cases d27 : (r21)
  ·simp only [d27, hs, reduceCtorEq] at h
   try simp only [vz, tyf, e23, e24, e25, e26, d27, nm, seval]
   refine opd_ret (x := (.tup [.agg ([.lit (.int .i64 0)] ++ [.lit (.int .i64 0)]), .lit (.int .i64 2)])) (by first | (simp only [Tryz.results37, resV, resL, resV1, tgt_ptr, tgt_tp, uw, cr, tyf, e23, e24, e25, e26, d27, nm, seval] <;> rfl) | rfl) ?_
   obtain rfl := kF _ h
   refine rr_tree ?_ ?_
   ·simp only [tre, tytre, Bool.and_self]
   ·first | (simp only [outV, uw, showV_ref, cr, tyf, nrm, tynrm, e23, e24, e25, e26, d27, nm, seval] <;> rfl) | rfl
  simp only [d27, hs, reduceCtorEq] at h
  cases o29 : (g_sight_isBoard x0_s x1_board) with
  | none =>
   simp only [o29, hs, reduceCtorEq] at h
   exact absurd h kN
  | some r28 =>
   simp only [o29, hs, reduceCtorEq] at h
   simp only [vz, tyf, e23, e24, e25, e26, d27, nm, seval]
   refine ktree (args0 := [.agg (cGSightStreet x0_s), .lit (.int .i64 x1_board)]) (by first | (simp only [nrm, tynrm] <;> rfl) | rfl) (by simp only [tre, tytre, Bool.and_self]) (g_sight_isBoard_ok _ _ _ o29) ?_
   refine fin_cut (fun tm => tm 1 = .lit (.int .i64 x1_board) ∧ tm 2 = .ptr 0 0 ∧ tm 4 = .ptr 1 0 ∧ tm 13 = .lit (.bool false) ∧ tm 16 = .lit (.bool r28) ∧ True) (by refine ⟨e23, e24, e25, ?_, ?_, trivial⟩ <;> first | (simp only [ua, e23, e24, e25, e26, d27, nm, seval] <;> rfl) | rfl) ?_
   rintro tm ⟨e30, e31, e32, e33, e34, _⟩
   cases d35 : (r28)
   ·simp only [d35, hs, reduceCtorEq] at h
    try simp only [vz, tyf, d27, e30, e31, e32, e33, e34, d35, nm, seval]
    refine opd_ret (x := (.tup [.agg ([.lit (.int .i64 0)] ++ [.lit (.int .i64 0)]), .lit (.int .i64 2)])) (by first | (simp only [Tryz.results37, resV, resL, resV1, tgt_ptr, tgt_tp, uw, cr, tyf, d27, e30, e31, e32, e33, e34, d35, nm, seval] <;> rfl) | rfl) ?_
    obtain rfl := kF _ h
    refine rr_tree ?_ ?_
    ·simp only [tre, tytre, Bool.and_self]
    ·first | (simp only [outV, uw, showV_ref, cr, tyf, nrm, tynrm, d27, e30, e31, e32, e33, e34, d35, nm, seval] <;> rfl) | rfl
   simp only [d35, hs, reduceCtorEq] at h
   cases o37 : (getI x0_s.Boards x1_board) with
   | none =>
    simp only [o37, hs, reduceCtorEq] at h
    exact absurd h kN
   | some x36 =>
    simp only [o37, hs, reduceCtorEq] at h
    try simp only [vz, tyf, d27, e30, e31, e32, e33, e34, d35, (ix24 o37), nm, seval]
    refine kopen ?_
    rw [openK_eq]
    refine VOpen.run mixed Tryz.call84 Tryz.func84 rfl (by simp [Tryz.ntmps84]; kernel_rfl) ?_
    try simp only [vz, tyf, d27, d35, (ix24 o37), nm, seval]
    refine opd_ret (x := (.fn (.func 111) [] [.ptr 32 0, .ptr 33 0])) (by first | (simp only [Tryz.results84, resV, resL, resV1, tgt_ptr, tgt_tp, uw, cr, tyf, d27, d35, (ix24 o37), nm, seval] <;> rfl) | rfl) ?_
    try simp only [vz, tyf, d27, d35, (ix24 o37), e30, e31, e32, e33, e34, nm, seval]
    refine kopen ?_
    rw [openK_eq]
    refine VOpen.run mixed Tryz.call83 Tryz.func83 rfl (by simp [Tryz.ntmps83]; kernel_rfl) ?_
    try simp only [vz, tyf, d27, d35, (ix24 o37), nm, seval]
    refine range_open (f := 111) (first := []) (captured := [.ptr 32 0, .ptr 33 0]) (by simp only [ev_tmp, ev_func, d27, d35, (ix24 o37), upd_apply, nm, seval] <;> rfl) ?_
    intro LO38 hLO38
    refine VOpen.run mixed Tryz.call111 Tryz.func111 rfl (by simp [Tryz.ntmps111]; kernel_rfl) ?_
    try simp only [vz, tyf, d27, d35, (ix24 o37), nm, seval]
    refine kopen ?_
    rw [openK_eq]
    refine VOpen.run mixed Tryz.call109 Tryz.func109 rfl (by simp [Tryz.ntmps109]; kernel_rfl) ?_
    try simp only [vz, tyf, d27, d35, (ix24 o37), nm, seval]
    refine opd_ret (x := (.fn (.func 127) [] [.ptr 49 0])) (by first | (simp only [Tryz.results109, resV, resL, resV1, tgt_ptr, tgt_tp, uw, cr, tyf, d27, d35, (ix24 o37), nm, seval] <;> rfl) | rfl) ?_
    try simp only [vz, tyf, d27, d35, (ix24 o37), nm, seval]
    refine range_open (f := 127) (first := []) (captured := [.ptr 49 0]) (by simp only [ev_tmp, ev_func, d27, d35, (ix24 o37), upd_apply, nm, seval] <;> rfl) ?_
    intro LO39 hLO39
    refine VOpen.run mixed Tryz.call127 Tryz.func127 rfl (by simp [Tryz.ntmps127]; kernel_rfl) ?_
    cases g41 : (boundOk (IntKind.i64.wrap (x0_s.Length + 1)))
    ·simp only [g41, hs, reduceCtorEq] at h
     exact absurd h kN
    simp only [g41, hs, reduceCtorEq] at h
    simp only [vz, tyf, d27, d35, (ix24 o37), g41, nm, seval]
    obtain ⟨K40, h, kR40, kG40, kB40, kN40⟩ := lbind_intro h kN
    obtain ⟨f40, hf40, h⟩ := call5 h
    obtain ⟨I40, hI40⟩ : ∃ I : Nat → St → Prop, I = (fun m st => ∃ (p40 : Nat) (c40_8 : Int) (c40_o0 : Int) (c40_o1 : Int) (c40_o2 : Bool), p40 = m ∧ loOk c40_8 = true ∧ Int.toNat ((IntKind.i64.wrap (x0_s.Length + 1)) - c40_8) = p40 ∧ st.df = [] ∧ 59 ≤ st.nx ∧ st.H 0 = some (.cells (some 27) (cGSightStreet x0_s)) ∧ st.H 1 = some (.cells (some 29) ([.lit (.int .i64 0)] ++ [.lit (.int .i64 0)])) ∧ st.H 17 = some (.cells (some 42) (cGSightBoard x36)) ∧ st.H 32 = some (.cells (some 27) (cGSightStreet x0_s)) ∧ st.H 33 = some (.cells (some 112) ([.fn (.func 85) [] [.ptr 0 0, .ptr 17 0]])) ∧ st.H 37 = some (.cells (some 114) ([.fn (.func 81) [] [.ptr 0 0, .ptr 17 0]])) ∧ st.H 38 = some (.cells (some 29) ([.lit (.int .i64 0)] ++ [.lit (.int .i64 0)])) ∧ st.H 40 = some (.cells (some 29) ([.lit (.int .i64 c40_o0)] ++ [.lit (.int .i64 c40_o1)])) ∧ st.H 41 = some (.cells (some 4) ([.lit (.bool c40_o2)])) ∧ st.H 44 = some (.deferred (some [])) ∧ st.H 45 = some LO38 ∧ st.H 46 = some (.cells (some 112) ([.yl 45])) ∧ st.H 49 = some (.cells (some 27) (cGSightStreet x0_s)) ∧ st.H 53 = some (.deferred (some [])) ∧ st.H 54 = some LO39 ∧ st.tm 0 = .yl 54 ∧ st.tm 1 = .ptr 49 0 ∧ st.tm 7 = .lit (.int .i64 (IntKind.i64.wrap (x0_s.Length + 1))) ∧ st.tm 8 = .lit (.int .i64 c40_8) ∧ K40 (f40 p40 c40_8 c40_o0 c40_o1 c40_o2)) := ⟨_, rfl⟩
    refine loopK mixed (by kernel_rfl) I40 (Int.toNat ((IntKind.i64.wrap (x0_s.Length + 1)) - 0)) (by rw [hI40]; refine ⟨Int.toNat ((IntKind.i64.wrap (x0_s.Length + 1)) - 0), 0, 0, 0, false, rfl, (by rfl), rfl, rfl, (show 59 ≤ 59 by omega), ?_, ?_, ?_, ?_, ?_, ?_, ?_, ?_, ?_, ?_, ?_, ?_, ?_, ?_, ?_, ?_, ?_, ?_, ?_, h⟩ <;> first | (simp only [ua, d27, d35, nm, seval] <;> rfl) | rfl) ?_
    rintro m ⟨tm, H, nx40, df⟩ hinv
    rw [hI40] at hinv
    obtain ⟨p40, c40_8, c40_o0, c40_o1, c40_o2, rfl, hi40, hp40, hdf, hn40, H42, H43, H44, H45, H46, H47, H48, H49, H50, H51, H52, H53, H54, H55, H56, e57, e58, e59, e60, h⟩ := hinv
    simp only at hdf hn40 H42 H43 H44 H45 H46 H47 H48 H49 H50 H51 H52 H53 H54 H55 H56 e57 e58 e59 e60
    have n61 := base_ne0 (m := 59) (b := nx40) (by omega)
    subst hdf hf40
    cases p40 with
    | zero =>
     have d62 : (decide (c40_8 < (IntKind.i64.wrap (x0_s.Length + 1)))) = false := cnt_not_lt hp40
     simp only [g_sight_Farthest_l0, hs, reduceCtorEq] at h
     replace h := kG40 _ h
     try dsimp only at h
     try simp only [hs] at h
     try simp only [vz, tyf, d27, d35, (ix24 o37), g41, n61, e57, e58, e59, e60, H42, H43, H44, H45, H46, H47, H48, H49, H50, H51, H52, H53, H54, H55, H56, d62, nm, seval]
     refine opd_normal (x := .tup []) (by simp [Tryz.results127, resV, resL]) ?_
     refine rangeEnd_go hLO39 (by simp only [updH_apply, without_apply, n61, H42, H43, H44, H45, H46, H47, H48, H49, H50, H51, H52, H53, H54, H55, H56, nm, seval] <;> rfl) ?_
     intro LX63
     try simp only [vz, tyf, d27, d35, (ix24 o37), g41, n61, H42, H43, H44, H45, H46, H47, H48, H49, H50, H51, H52, H53, H54, H55, H56, d62, nm, seval]
     refine opd_collN (by simp only [updH_apply, without_apply, n61, H42, H43, H44, H45, H46, H47, H48, H49, H50, H51, H52, H53, H54, H55, H56, nm, seval] <;> rfl) ?_
     try simp only [vz, tyf, d27, d35, (ix24 o37), g41, n61, H42, H43, H44, H45, H46, H47, H48, H49, H50, H51, H52, H53, H54, H55, H56, d62, nm, seval]
     refine opd_normal (x := .tup []) (by simp [Tryz.results111, resV, resL]) ?_
     refine rangeEnd_go hLO38 (by simp only [updH_apply, without_apply, n61, H42, H43, H44, H45, H46, H47, H48, H49, H50, H51, H52, H53, H54, H55, H56, nm, seval] <;> rfl) ?_
     intro LX64
     simp only [vz, tyf, d27, d35, (ix24 o37), g41, n61, H42, H43, H44, H45, H46, H47, H48, H49, H50, H51, H52, H53, H54, H55, H56, d62, nm, seval]
     refine cwp_drawTF (fun tm => tm 4 = .ptr 38 0 ∧ tm 6 = .ptr 40 0 ∧ tm 7 = .ptr 41 0 ∧ True) (by refine ⟨?_, ?_, ?_, trivial⟩ <;> first | (simp only [ua, d27, d35, n61, H42, H43, H44, H45, H46, H47, H48, H49, H50, H51, H52, H53, H54, H55, H56, d62, nm, seval] <;> rfl) | rfl) ?_
     rintro tm ⟨e65, e66, e67, _⟩
     simp only [vz, tyf, d27, d35, (ix24 o37), g41, n61, H42, H43, H44, H45, H46, H47, H48, H49, H50, H51, H52, H53, H54, H55, H56, d62, e65, e66, e67, nm, seval]
     refine drawK_nil ⟨?_, ?_⟩
     ·simp only [traceR_cons, traceR_nil, hitK_quiet, hitK_nil, and_true, true_and]
      repeat' (first | exact trivial | refine And.intro ?_ ?_ | rw [hitK_quiet] | rw [hitK_cons] | exact Or.inl (by decide +kernel) | exact Or.inl (by dsimp only; decide +kernel) | (refine Or.inr ⟨?_, ?_⟩ <;> simp; done) | (refine Or.inr ⟨?_, ?_⟩ <;> simp <;> omega))
     try simp only [vz, tyf, d27, d35, (ix24 o37), g41, n61, H42, H43, H44, H45, H46, H47, H48, H49, H50, H51, H52, H53, H54, H55, H56, d62, e65, e66, e67, nm, seval]
     refine opd_coll (by simp only [updH_apply, without_apply, n61, H42, H43, H44, H45, H46, H47, H48, H49, H50, H51, H52, H53, H54, H55, H56, nm, seval] <;> rfl) ?_
     try simp only [vz, tyf, d27, d35, (ix24 o37), g41, n61, H42, H43, H44, H45, H46, H47, H48, H49, H50, H51, H52, H53, H54, H55, H56, d62, e65, e66, e67, nm, seval]
     refine opd_ret (x := (.tup [.agg ([.lit (.int .i64 c40_o0)] ++ [.lit (.int .i64 c40_o1)]), .lit (.bool c40_o2)])) (by first | (simp only [Tryz.results83, resV, resL, resV1, tgt_ptr, tgt_tp, uw, cr, tyf, d27, d35, (ix24 o37), g41, n61, H42, H43, H44, H45, H46, H47, H48, H49, H50, H51, H52, H53, H54, H55, H56, d62, e65, e66, e67, nm, seval] <;> rfl) | rfl) ?_
     cases d68 : (c40_o2)
     ·simp only [d68, hs, reduceCtorEq] at h
      try simp only [vz, tyf, d27, d35, (ix24 o37), g41, n61, H42, H43, H44, H45, H46, H47, H48, H49, H50, H51, H52, H53, H54, H55, H56, d62, e30, e31, e32, e33, e34, d68, nm, seval]
      refine opd_ret (x := (.tup [.agg ([.lit (.int .i64 0)] ++ [.lit (.int .i64 0)]), .lit (.int .i64 5)])) (by first | (simp only [Tryz.results37, resV, resL, resV1, tgt_ptr, tgt_tp, uw, cr, tyf, d27, d35, (ix24 o37), g41, n61, H42, H43, H44, H45, H46, H47, H48, H49, H50, H51, H52, H53, H54, H55, H56, d62, e30, e31, e32, e33, e34, d68, nm, seval] <;> rfl) | rfl) ?_
      obtain rfl := kF _ h
      refine rr_tree ?_ ?_
      ·simp only [tre, tytre, Bool.and_self]
      ·first | (simp only [outV, uw, showV_ref, cr, tyf, nrm, tynrm, d27, d35, (ix24 o37), g41, n61, H42, H43, H44, H45, H46, H47, H48, H49, H50, H51, H52, H53, H54, H55, H56, d62, e30, e31, e32, e33, e34, d68, nm, seval] <;> rfl) | rfl
     simp only [d68, hs, reduceCtorEq] at h
     try simp only [vz, tyf, d27, d35, (ix24 o37), g41, n61, H42, H43, H44, H45, H46, H47, H48, H49, H50, H51, H52, H53, H54, H55, H56, d62, e30, e31, e32, e33, e34, d68, nm, seval]
     refine opd_ret (x := (.tup [.agg ([.lit (.int .i64 c40_o0)] ++ [.lit (.int .i64 c40_o1)]), .lit (.int .i64 0)])) (by first | (simp only [Tryz.results37, resV, resL, resV1, tgt_ptr, tgt_tp, uw, cr, tyf, d27, d35, (ix24 o37), g41, n61, H42, H43, H44, H45, H46, H47, H48, H49, H50, H51, H52, H53, H54, H55, H56, d62, e30, e31, e32, e33, e34, d68, nm, seval] <;> rfl) | rfl) ?_
     obtain rfl := kF _ h
     refine rr_tree ?_ ?_
     ·simp only [tre, tytre, Bool.and_self]
     ·first | (simp only [outV, uw, showV_ref, cr, tyf, nrm, tynrm, d27, d35, (ix24 o37), g41, n61, H42, H43, H44, H45, H46, H47, H48, H49, H50, H51, H52, H53, H54, H55, H56, d62, e30, e31, e32, e33, e34, d68, nm, seval] <;> rfl) | rfl
    | succ p40 =>
     have d69 : (decide (c40_8 < (IntKind.i64.wrap (x0_s.Length + 1)))) = true := cnt_lt hp40
     have w70 := cnt_wrap hi40 hp40 g41
     simp only [g_sight_Farthest_l0, hs, reduceCtorEq] at h
     cases g72 : (boundOk x0_s.Width)
     ·simp only [g72, hs, reduceCtorEq] at h
      exact absurd h kN40
     simp only [g72, hs, reduceCtorEq] at h
     simp only [vz, tyf, d27, d35, (ix24 o37), g41, n61, e57, e58, e59, e60, H42, H43, H44, H45, H46, H47, H48, H49, H50, H51, H52, H53, H54, H55, H56, d69, w70, g72, nm, seval]
     obtain ⟨K71, h, kR71, kG71, kB71, kN71⟩ := lbind_intro h kN40
     obtain ⟨f71, hf71, h⟩ := call5 h
     obtain ⟨I71, hI71⟩ : ∃ I : Nat → St → Prop, I = (fun m st => ∃ (p71 : Nat) (c71_13 : Int) (c71_o0 : Int) (c71_o1 : Int) (c71_o2 : Bool), p71 = m ∧ loOk c71_13 = true ∧ Int.toNat (x0_s.Width - c71_13) = p71 ∧ st.df = [] ∧ nx40 + 6 ≤ st.nx ∧ st.H 0 = some (.cells (some 27) (cGSightStreet x0_s)) ∧ st.H 1 = some (.cells (some 29) ([.lit (.int .i64 0)] ++ [.lit (.int .i64 0)])) ∧ st.H 17 = some (.cells (some 42) (cGSightBoard x36)) ∧ st.H 32 = some (.cells (some 27) (cGSightStreet x0_s)) ∧ st.H 33 = some (.cells (some 112) ([.fn (.func 85) [] [.ptr 0 0, .ptr 17 0]])) ∧ st.H 37 = some (.cells (some 114) ([.fn (.func 81) [] [.ptr 0 0, .ptr 17 0]])) ∧ st.H 38 = some (.cells (some 29) ([.lit (.int .i64 0)] ++ [.lit (.int .i64 0)])) ∧ st.H 40 = some (.cells (some 29) ([.lit (.int .i64 c71_o0)] ++ [.lit (.int .i64 c71_o1)])) ∧ st.H 41 = some (.cells (some 4) ([.lit (.bool c71_o2)])) ∧ st.H 44 = some (.deferred (some [])) ∧ st.H 45 = some LO38 ∧ st.H 46 = some (.cells (some 112) ([.yl 45])) ∧ st.H 49 = some (.cells (some 27) (cGSightStreet x0_s)) ∧ st.H 53 = some (.deferred (some [])) ∧ st.H 54 = some LO39 ∧ st.tm 0 = .yl 54 ∧ st.tm 1 = .ptr 49 0 ∧ st.tm 3 = .lit (.int .i64 c40_8) ∧ st.tm 7 = .lit (.int .i64 (IntKind.i64.wrap (x0_s.Length + 1))) ∧ st.tm 8 = .lit (.int .i64 c40_8) ∧ st.tm 12 = .lit (.int .i64 x0_s.Width) ∧ st.tm 13 = .lit (.int .i64 c71_13) ∧ K71 (f71 p71 c71_13 c71_o0 c71_o1 c71_o2)) := ⟨_, rfl⟩
     refine loopK mixed (by kernel_rfl) I71 (Int.toNat (x0_s.Width - 0)) (by rw [hI71]; refine ⟨Int.toNat (x0_s.Width - 0), 0, c40_o0, c40_o1, c40_o2, rfl, (by rfl), rfl, rfl, (show nx40 + 6 ≤ nx40 + 6 by omega), ?_, ?_, ?_, ?_, ?_, ?_, ?_, ?_, ?_, ?_, ?_, ?_, ?_, ?_, ?_, e57, e58, ?_, e59, e60, ?_, ?_, h⟩ <;> first | (simp only [ua, d27, d35, n61, e57, e58, e59, e60, H42, H43, H44, H45, H46, H47, H48, H49, H50, H51, H52, H53, H54, H55, H56, d69, w70, nm, seval] <;> rfl) | rfl) ?_
     rintro m ⟨tm, H, nx71, df⟩ hinv
     rw [hI71] at hinv
     obtain ⟨p71, c71_13, c71_o0, c71_o1, c71_o2, rfl, hi71, hp71, hdf, hn71, H73, H74, H75, H76, H77, H78, H79, H80, H81, H82, H83, H84, H85, H86, H87, e88, e89, e90, e91, e92, e93, e94, h⟩ := hinv
     simp only at hdf hn71 H73 H74 H75 H76 H77 H78 H79 H80 H81 H82 H83 H84 H85 H86 H87 e88 e89 e90 e91 e92 e93 e94
     have n95 := base_ne0 (m := 59) (b := nx71) (by omega)
     have n96 := base_ne (a := nx40) (m := 6) (b := nx71) (by omega)
     subst hdf hf71
     cases p71 with
     | zero =>
      have d97 : (decide (c71_13 < x0_s.Width)) = false := cnt_not_lt hp71
      simp only [g_sight_Farthest_l1, hs, reduceCtorEq] at h
      replace h := kG71 _ h
      try dsimp only at h
      try simp only [hs] at h
      simp only [vz, tyf, d27, d35, (ix24 o37), g41, n61, d69, w70, g72, n95, n96, e88, e89, e90, e91, e92, e93, e94, H73, H74, H75, H76, H77, H78, H79, H80, H81, H82, H83, H84, H85, H86, H87, d97, nm, seval]
      exact ⟨p40, Nat.lt_succ_self _, by rw [hI40]; refine ⟨p40, c40_8 + 1, c71_o0, c71_o1, c71_o2, rfl, cnt_lo hi40, cnt_next hp40, rfl, (show 59 ≤ nx71 + 3 by omega), ?_, ?_, ?_, ?_, ?_, ?_, ?_, ?_, ?_, ?_, ?_, ?_, ?_, ?_, ?_, e88, e89, e91, ?_, h⟩ <;> first | (simp only [ua, d27, d35, n61, d69, w70, n95, n96, e88, e89, e90, e91, e92, e93, e94, H73, H74, H75, H76, H77, H78, H79, H80, H81, H82, H83, H84, H85, H86, H87, d97, nm, seval] <;> rfl) | rfl⟩
     | succ p71 =>
      have d98 : (decide (c71_13 < x0_s.Width)) = true := cnt_lt hp71
      have w99 := cnt_wrap hi71 hp71 g72
      simp only [g_sight_Farthest_l1, hs, reduceCtorEq] at h
      try simp only [vz, tyf, d27, d35, (ix24 o37), g41, n61, d69, w70, g72, n95, n96, e88, e89, e90, e91, e92, e93, e94, H73, H74, H75, H76, H77, H78, H79, H80, H81, H82, H83, H84, H85, H86, H87, d98, w99, rg, nm, seval]
      refine yield_open mixed (psl := [7]) hLO39 (by simp only [updH_apply, without_apply, n61, n95, n96, H73, H74, H75, H76, H77, H78, H79, H80, H81, H82, H83, H84, H85, H86, H87, nm, seval] <;> rfl) tmL_length rfl (by kernel_rfl) (by kernel_rfl) ?_
      intro LB100 LD100 hLB100 hLD100
      refine cwp_tmcut (fun tm => tm 2 = .ptr 33 0 ∧ tm 3 = .ptr 46 0 ∧ tm 7 = .agg ([.lit (.int .i64 c40_8)] ++ [.lit (.int .i64 (c71_13 + 1))]) ∧ True) (by refine ⟨?_, ?_, ?_, trivial⟩ <;> (simp only [round_tm, round_tm0, Tryz.ntmps111, e88, e89, e90, e91, e92, e93, e94, nm, seval] <;> first | rfl | trivial)) ?_
      rintro tm ⟨e101, e102, e103, _⟩
      try simp only [vz, tyf, d27, d35, (ix24 o37), g41, n61, d69, w70, g72, n95, n96, H73, H74, H75, H76, H77, H78, H79, H80, H81, H82, H83, H84, H85, H86, H87, d98, w99, e101, e102, e103, nm, seval]
      rw [rndAs_normal (by simp only [updH_apply, without_apply, n61, n95, n96, H73, H74, H75, H76, H77, H78, H79, H80, H81, H82, H83, H84, H85, H86, H87, nm, seval] <;> rfl)]
      try simp only [vz, tyf, d27, d35, (ix24 o37), g41, n61, d69, w70, g72, n95, n96, H73, H74, H75, H76, H77, H78, H79, H80, H81, H82, H83, H84, H85, H86, H87, d98, w99, e101, e102, e103, nm, seval]
      refine kopen ?_
      rw [openK_eq]
      refine VOpen.run mixed Tryz.call85 Tryz.func85 rfl (by simp [Tryz.ntmps85]; kernel_rfl) ?_
      cases o105 : (g_sight_isSurelyRead x0_s x36 (GSightPlace.mk c40_8 (c71_13 + 1))) with
      | none =>
       simp only [o105, hs, reduceCtorEq] at h
       exact absurd h kN71
      | some r104 =>
       simp only [o105, hs, reduceCtorEq] at h
       simp only [vz, tyf, d27, d35, (ix24 o37), g41, n61, d69, w70, g72, n95, n96, H73, H74, H75, H76, H77, H78, H79, H80, H81, H82, H83, H84, H85, H86, H87, d98, w99, nm, seval]
       refine ktree (args0 := [.agg (cGSightStreet x0_s), .agg (cGSightBoard x36), .agg (cGSightPlace (GSightPlace.mk c40_8 (c71_13 + 1)))]) (by first | (simp only [nrm, tynrm] <;> rfl) | rfl) (by simp only [tre, tytre, Bool.and_self]) (g_sight_isSurelyRead_ok _ _ _ _ o105) ?_
       refine fin_cut (fun tm => tm 8 = .lit (.bool r104) ∧ True) (by refine ⟨?_, trivial⟩ <;> first | (simp only [ua, d27, d35, n61, d69, w70, n95, n96, H73, H74, H75, H76, H77, H78, H79, H80, H81, H82, H83, H84, H85, H86, H87, d98, w99, nm, seval] <;> rfl) | rfl) ?_
       rintro tm ⟨e106, _⟩
       try simp only [vz, tyf, d27, d35, (ix24 o37), g41, n61, d69, w70, g72, n95, n96, H73, H74, H75, H76, H77, H78, H79, H80, H81, H82, H83, H84, H85, H86, H87, d98, w99, e106, nm, seval]
       refine opd_ret (x := (.lit (.bool r104))) (by first | (simp only [Tryz.results85, resV, resL, resV1, tgt_ptr, tgt_tp, uw, cr, tyf, d27, d35, (ix24 o37), g41, n61, d69, w70, g72, n95, n96, H73, H74, H75, H76, H77, H78, H79, H80, H81, H82, H83, H84, H85, H86, H87, d98, w99, nm, seval] <;> rfl) | rfl) ?_
       cases d107 : (r104)
       ·simp only [d107, hs, reduceCtorEq] at h
        have b108 := And.intro d27 (And.intro d35 (And.intro g41 (And.intro d69 (And.intro g72 (And.intro d98 d107)))))
        try simp only [vz, tyf, b108, (ix24 o37), n61, w70, n95, n96, H73, H74, H75, H76, H77, H78, H79, H80, H81, H82, H83, H84, H85, H86, H87, w99, e101, e102, e103, nm, seval]
        rw [rnd_normal (by simp only [updH_apply, without_apply, n61, n95, n96, H73, H74, H75, H76, H77, H78, H79, H80, H81, H82, H83, H84, H85, H86, H87, nm, seval] <;> rfl)]
        simp only [vz, tyf, b108, (ix24 o37), n61, w70, n95, n96, H73, H74, H75, H76, H77, H78, H79, H80, H81, H82, H83, H84, H85, H86, H87, w99, e88, e89, e90, e91, e92, e93, e94, nm, seval]
        exact ⟨p71, Nat.lt_succ_self _, by rw [hI71]; refine ⟨p71, c71_13 + 1, c71_o0, c71_o1, c71_o2, rfl, cnt_lo hi71, cnt_next hp71, rfl, (show nx40 + 6 ≤ nx71 + 30 by omega), ?_, ?_, ?_, ?_, ?_, ?_, ?_, ?_, ?_, ?_, ?_, ?_, ?_, ?_, ?_, e88, e89, e90, e91, e92, e93, ?_, h⟩ <;> first | (simp only [ua, b108, n61, w70, n95, n96, H73, H74, H75, H76, H77, H78, H79, H80, H81, H82, H83, H84, H85, H86, H87, w99, e88, e89, e90, e91, e92, e93, e94, nm, seval] <;> rfl) | rfl⟩
       simp only [d107, hs, reduceCtorEq] at h
       have b109 := And.intro d27 (And.intro d35 (And.intro g41 (And.intro d69 (And.intro g72 (And.intro d98 d107)))))
       try simp only [vz, tyf, b109, (ix24 o37), n61, w70, n95, n96, H73, H74, H75, H76, H77, H78, H79, H80, H81, H82, H83, H84, H85, H86, H87, w99, e101, e102, e103, rg, nm, seval]
       refine yield_open mixed (psl := [10]) hLO38 (by simp only [updH_apply, without_apply, n61, n95, n96, H73, H74, H75, H76, H77, H78, H79, H80, H81, H82, H83, H84, H85, H86, H87, nm, seval] <;> rfl) tmL_length rfl (by kernel_rfl) (by kernel_rfl) ?_
       intro LB110 LD110 hLB110 hLD110
       refine cwp_tmcut (fun tm => tm 3 = .ptr 37 0 ∧ tm 6 = .ptr 40 0 ∧ tm 7 = .ptr 41 0 ∧ tm 10 = .agg ([.lit (.int .i64 c40_8)] ++ [.lit (.int .i64 (c71_13 + 1))]) ∧ True) (by refine ⟨?_, ?_, ?_, ?_, trivial⟩ <;> (simp only [round_tm, round_tm0, Tryz.ntmps83, e101, e102, e103, nm, seval] <;> first | rfl | trivial)) ?_
       rintro tm ⟨e111, e112, e113, e114, _⟩
       try simp only [vz, tyf, b109, (ix24 o37), n61, w70, n95, n96, H73, H74, H75, H76, H77, H78, H79, H80, H81, H82, H83, H84, H85, H86, H87, w99, e111, e112, e113, e114, nm, seval]
       rw [rndAs_normal (by simp only [updH_apply, without_apply, n61, n95, n96, H73, H74, H75, H76, H77, H78, H79, H80, H81, H82, H83, H84, H85, H86, H87, nm, seval] <;> rfl)]
       cases d115 : (c71_o2)
       ·simp only [d115, hs, reduceCtorEq] at h
        try simp only [vz, tyf, b109, (ix24 o37), n61, w70, n95, n96, H73, H74, H75, H76, H77, H78, H79, H80, H81, H82, H83, H84, H85, H86, H87, w99, e111, e112, e113, e114, d115, nm, seval]
        rw [rnd_normal (by simp only [updH_apply, without_apply, n61, n95, n96, H73, H74, H75, H76, H77, H78, H79, H80, H81, H82, H83, H84, H85, H86, H87, nm, seval] <;> rfl)]
        try simp only [vz, tyf, b109, (ix24 o37), n61, w70, n95, n96, H73, H74, H75, H76, H77, H78, H79, H80, H81, H82, H83, H84, H85, H86, H87, w99, d115, e101, e102, e103, nm, seval]
        rw [rnd_normal (by simp only [updH_apply, without_apply, n61, n95, n96, H73, H74, H75, H76, H77, H78, H79, H80, H81, H82, H83, H84, H85, H86, H87, nm, seval] <;> rfl)]
        simp only [vz, tyf, b109, (ix24 o37), n61, w70, n95, n96, H73, H74, H75, H76, H77, H78, H79, H80, H81, H82, H83, H84, H85, H86, H87, w99, d115, e88, e89, e90, e91, e92, e93, e94, nm, seval]
        exact ⟨p71, Nat.lt_succ_self _, by rw [hI71]; refine ⟨p71, c71_13 + 1, c40_8, c71_13 + 1, true, rfl, cnt_lo hi71, cnt_next hp71, rfl, (show nx40 + 6 ≤ nx71 + 43 by omega), ?_, ?_, ?_, ?_, ?_, ?_, ?_, ?_, ?_, ?_, ?_, ?_, ?_, ?_, ?_, e88, e89, e90, e91, e92, e93, ?_, h⟩ <;> first | (simp only [ua, b109, n61, w70, n95, n96, H73, H74, H75, H76, H77, H78, H79, H80, H81, H82, H83, H84, H85, H86, H87, w99, d115, e88, e89, e90, e91, e92, e93, e94, nm, seval] <;> rfl) | rfl⟩
       simp only [d115, hs, reduceCtorEq] at h
       try simp only [vz, tyf, b109, (ix24 o37), n61, w70, n95, n96, H73, H74, H75, H76, H77, H78, H79, H80, H81, H82, H83, H84, H85, H86, H87, w99, e111, e112, e113, e114, d115, nm, seval]
       refine kopen ?_
       rw [openK_eq]
       refine VOpen.run mixed Tryz.call81 Tryz.func81 rfl (by simp [Tryz.ntmps81]; kernel_rfl) ?_
       simp only [vz, tyf, b109, (ix24 o37), n61, w70, n95, n96, H73, H74, H75, H76, H77, H78, H79, H80, H81, H82, H83, H84, H85, H86, H87, w99, d115, nm, seval]
       refine cwp_drwQF (fun tm => tm 2 = .ptr 0 0 ∧ tm 3 = .ptr 17 0 ∧ tm 4 = .ptr (nx71 + 38) 0 ∧ tm 5 = .ptr (nx71 + 39) 0 ∧ True) (by refine ⟨?_, ?_, ?_, ?_, trivial⟩ <;> first | (simp only [ua, b109, n61, w70, n95, n96, H73, H74, H75, H76, H77, H78, H79, H80, H81, H82, H83, H84, H85, H86, H87, w99, d115, nm, seval] <;> rfl) | rfl) ?_
       rintro tm ⟨e116, e117, e118, e119, _⟩
       cases o121 : (g_sight_atWorst x0_s x36 (GSightPlace.mk c40_8 (c71_13 + 1))) with
       | none =>
        simp only [o121, hs, reduceCtorEq] at h
        exact absurd h kN71
       | some r120 =>
        simp only [o121, hs, reduceCtorEq] at h
        simp only [vz, tyf, b109, (ix24 o37), n61, w70, n95, n96, H73, H74, H75, H76, H77, H78, H79, H80, H81, H82, H83, H84, H85, H86, H87, w99, d115, e116, e117, e118, e119, nm, seval]
        refine dktree (args0 := [.agg (cGSightStreet x0_s), .agg (cGSightBoard x36), .agg (cGSightPlace (GSightPlace.mk c40_8 (c71_13 + 1)))]) (by first | (simp only [nrm, tynrm] <;> rfl) | rfl) (by simp only [tre, tytre, Bool.and_self]) (g_sight_atWorst_ok _ _ _ _ o121) ?_
        refine fin_cut (fun tm => tm 2 = .ptr 0 0 ∧ tm 3 = .ptr 17 0 ∧ tm 5 = .ptr (nx71 + 39) 0 ∧ tm 10 = .agg (cGsightview r120) ∧ True) (by refine ⟨e116, e117, e119, ?_, trivial⟩ <;> first | (simp only [ua, b109, n61, w70, n95, n96, H73, H74, H75, H76, H77, H78, H79, H80, H81, H82, H83, H84, H85, H86, H87, w99, d115, e116, e117, e118, e119, nm, seval] <;> rfl) | rfl) ?_
        rintro tm ⟨e122, e123, e124, e125, _⟩
        cases o127 : (g_sight_view_far r120) with
        | none =>
         simp only [o127, hs, reduceCtorEq] at h
         exact absurd h kN71
        | some r126 =>
         simp only [o127, hs, reduceCtorEq] at h
         simp only [vz, tyf, b109, (ix24 o37), n61, w70, n95, n96, H73, H74, H75, H76, H77, H78, H79, H80, H81, H82, H83, H84, H85, H86, H87, w99, d115, e122, e123, e124, e125, nm, seval]
         refine dktree (args0 := [.agg (cGsightview r120)]) (by first | (simp only [nrm, tynrm] <;> rfl) | rfl) (by simp only [tre, tytre, Bool.and_self]) (g_sight_view_far_ok _ _ o127) ?_
         refine fin_cut (fun tm => tm 2 = .ptr 0 0 ∧ tm 3 = .ptr 17 0 ∧ tm 5 = .ptr (nx71 + 39) 0 ∧ tm 11 = .lit (.int .i64 r126) ∧ True) (by refine ⟨e122, e123, e124, ?_, trivial⟩ <;> first | (simp only [ua, b109, n61, w70, n95, n96, H73, H74, H75, H76, H77, H78, H79, H80, H81, H82, H83, H84, H85, H86, H87, w99, d115, e122, e123, e124, e125, nm, seval] <;> rfl) | rfl) ?_
         rintro tm ⟨e128, e129, e130, e131, _⟩
         cases o133 : (g_sight_atWorst x0_s x36 (GSightPlace.mk c71_o0 c71_o1)) with
         | none =>
          simp only [o133, hs, reduceCtorEq] at h
          exact absurd h kN71
         | some r132 =>
          simp only [o133, hs, reduceCtorEq] at h
          simp only [vz, tyf, b109, (ix24 o37), n61, w70, n95, n96, H73, H74, H75, H76, H77, H78, H79, H80, H81, H82, H83, H84, H85, H86, H87, w99, d115, e128, e129, e130, e131, nm, seval]
          refine dktree (args0 := [.agg (cGSightStreet x0_s), .agg (cGSightBoard x36), .agg (cGSightPlace (GSightPlace.mk c71_o0 c71_o1))]) (by first | (simp only [nrm, tynrm] <;> rfl) | rfl) (by simp only [tre, tytre, Bool.and_self]) (g_sight_atWorst_ok _ _ _ _ o133) ?_
          refine fin_cut (fun tm => tm 11 = .lit (.int .i64 r126) ∧ tm 15 = .agg (cGsightview r132) ∧ True) (by refine ⟨e131, ?_, trivial⟩ <;> first | (simp only [ua, b109, n61, w70, n95, n96, H73, H74, H75, H76, H77, H78, H79, H80, H81, H82, H83, H84, H85, H86, H87, w99, d115, e128, e129, e130, e131, nm, seval] <;> rfl) | rfl) ?_
          rintro tm ⟨e134, e135, _⟩
          cases o137 : (g_sight_view_far r132) with
          | none =>
           simp only [o137, hs, reduceCtorEq] at h
           exact absurd h kN71
          | some r136 =>
           simp only [o137, hs, reduceCtorEq] at h
           simp only [vz, tyf, b109, (ix24 o37), n61, w70, n95, n96, H73, H74, H75, H76, H77, H78, H79, H80, H81, H82, H83, H84, H85, H86, H87, w99, d115, e134, e135, nm, seval]
           refine dktree (args0 := [.agg (cGsightview r132)]) (by first | (simp only [nrm, tynrm] <;> rfl) | rfl) (by simp only [tre, tytre, Bool.and_self]) (g_sight_view_far_ok _ _ o137) ?_
           refine fin_cut (fun tm => tm 11 = .lit (.int .i64 r126) ∧ tm 16 = .lit (.int .i64 r136) ∧ True) (by refine ⟨e134, ?_, trivial⟩ <;> first | (simp only [ua, b109, n61, w70, n95, n96, H73, H74, H75, H76, H77, H78, H79, H80, H81, H82, H83, H84, H85, H86, H87, w99, d115, e134, e135, nm, seval] <;> rfl) | rfl) ?_
           rintro tm ⟨e138, e139, _⟩
           try simp only [vz, tyf, b109, (ix24 o37), n61, w70, n95, n96, H73, H74, H75, H76, H77, H78, H79, H80, H81, H82, H83, H84, H85, H86, H87, w99, d115, e138, e139, nm, seval]
           refine opd_ret (x := (.lit (.bool (decide (r126 > r136))))) (by first | (simp only [Tryz.results81, resV, resL, resV1, tgt_ptr, tgt_tp, uw, cr, tyf, b109, (ix24 o37), n61, w70, n95, n96, H73, H74, H75, H76, H77, H78, H79, H80, H81, H82, H83, H84, H85, H86, H87, w99, d115, nm, seval] <;> rfl) | rfl) ?_
           cases d140 : (decide (r126 > r136))
           ·simp only [d140, hs, reduceCtorEq] at h
            try simp only [vz, tyf, b109, (ix24 o37), n61, w70, n95, n96, H73, H74, H75, H76, H77, H78, H79, H80, H81, H82, H83, H84, H85, H86, H87, w99, d115, e111, e112, e113, e114, d140, nm, seval]
            rw [rnd_normal (by simp only [updH_apply, without_apply, n61, n95, n96, H73, H74, H75, H76, H77, H78, H79, H80, H81, H82, H83, H84, H85, H86, H87, nm, seval] <;> rfl)]
            try simp only [vz, tyf, b109, (ix24 o37), n61, w70, n95, n96, H73, H74, H75, H76, H77, H78, H79, H80, H81, H82, H83, H84, H85, H86, H87, w99, d115, d140, e101, e102, e103, nm, seval]
            rw [rnd_normal (by simp only [updH_apply, without_apply, n61, n95, n96, H73, H74, H75, H76, H77, H78, H79, H80, H81, H82, H83, H84, H85, H86, H87, nm, seval] <;> rfl)]
            simp only [vz, tyf, b109, (ix24 o37), n61, w70, n95, n96, H73, H74, H75, H76, H77, H78, H79, H80, H81, H82, H83, H84, H85, H86, H87, w99, d115, d140, e88, e89, e90, e91, e92, e93, e94, nm, seval]
            exact ⟨p71, Nat.lt_succ_self _, by rw [hI71]; refine ⟨p71, c71_13 + 1, c71_o0, c71_o1, true, rfl, cnt_lo hi71, cnt_next hp71, rfl, (show nx40 + 6 ≤ nx71 + 55 by omega), ?_, ?_, ?_, ?_, ?_, ?_, ?_, ?_, ?_, ?_, ?_, ?_, ?_, ?_, ?_, e88, e89, e90, e91, e92, e93, ?_, h⟩ <;> first | (simp only [ua, b109, n61, w70, n95, n96, H73, H74, H75, H76, H77, H78, H79, H80, H81, H82, H83, H84, H85, H86, H87, w99, d115, d140, e88, e89, e90, e91, e92, e93, e94, nm, seval] <;> rfl) | rfl⟩
           simp only [d140, hs, reduceCtorEq] at h
           try simp only [vz, tyf, b109, (ix24 o37), n61, w70, n95, n96, H73, H74, H75, H76, H77, H78, H79, H80, H81, H82, H83, H84, H85, H86, H87, w99, d115, e111, e112, e113, e114, d140, nm, seval]
           rw [rnd_normal (by simp only [updH_apply, without_apply, n61, n95, n96, H73, H74, H75, H76, H77, H78, H79, H80, H81, H82, H83, H84, H85, H86, H87, nm, seval] <;> rfl)]
           try simp only [vz, tyf, b109, (ix24 o37), n61, w70, n95, n96, H73, H74, H75, H76, H77, H78, H79, H80, H81, H82, H83, H84, H85, H86, H87, w99, d115, d140, e101, e102, e103, nm, seval]
           rw [rnd_normal (by simp only [updH_apply, without_apply, n61, n95, n96, H73, H74, H75, H76, H77, H78, H79, H80, H81, H82, H83, H84, H85, H86, H87, nm, seval] <;> rfl)]
           simp only [vz, tyf, b109, (ix24 o37), n61, w70, n95, n96, H73, H74, H75, H76, H77, H78, H79, H80, H81, H82, H83, H84, H85, H86, H87, w99, d115, d140, e88, e89, e90, e91, e92, e93, e94, nm, seval]
           exact ⟨p71, Nat.lt_succ_self _, by rw [hI71]; refine ⟨p71, c71_13 + 1, c40_8, c71_13 + 1, true, rfl, cnt_lo hi71, cnt_next hp71, rfl, (show nx40 + 6 ≤ nx71 + 58 by omega), ?_, ?_, ?_, ?_, ?_, ?_, ?_, ?_, ?_, ?_, ?_, ?_, ?_, ?_, ?_, e88, e89, e90, e91, e92, e93, ?_, h⟩ <;> first | (simp only [ua, b109, n61, w70, n95, n96, H73, H74, H75, H76, H77, H78, H79, H80, H81, H82, H83, H84, H85, H86, H87, w99, d115, d140, e88, e89, e90, e91, e92, e93, e94, nm, seval] <;> rfl) | rfl⟩
end Go.V
end
section
namespace Go.V
open Go Go.Proofs
def g_ref02_Places_l1 (x0_s : GSightStreet) (c0_4 : Int) : Nat → (List GSightPlace) → Int → Option (LOut (List GSightPlace) ((List GSightPlace) × Int))
 | 0, _, _ => none
 | k1 + 1, c1_3, c1_5 => cond (decide (c1_5 ≤ x0_s.Width)) (cond (roomOk 16 (List.length (c1_3 ++ [(GSightPlace.mk c0_4 c1_5)]))) (g_ref02_Places_l1 x0_s c0_4 k1 (c1_3 ++ [(GSightPlace.mk c0_4 c1_5)]) (IntKind.i64.wrap (c1_5 + 1))) none) (some (.go (c1_3, c1_5)))
def g_ref02_Places_l0 (x0_s : GSightStreet) : Nat → (List GSightPlace) → Int → Option (LOut (List GSightPlace) ((List GSightPlace) × Int))
 | 0, _, _ => none
 | k0 + 1, c0_3, c0_4 => cond (decide (c0_4 ≤ x0_s.Length)) (lbind (g_ref02_Places_l1 x0_s c0_4 1000000 c0_3 1) (fun r2 => some (.ret r2)) (fun c1 => g_ref02_Places_l0 x0_s k0 c1.1 (IntKind.i64.wrap (c0_4 + 1))) (fun _ _ => none)) (some (.go (c0_3, c0_4)))
def g_ref02_Places (x0_s : GSightStreet) : Option (List GSightPlace) := lbind (g_ref02_Places_l0 x0_s 1000000 ([] : List GSightPlace) 0) (fun r4 => some r4) (fun c3 => some c3.1) (fun _ _ => none)
theorem g_ref02_Places_ok (x0_s : GSightStreet) (R : List GSightPlace) (h : g_ref02_Places x0_s = some R) : VPure Tryz.prog G0 87 [.agg (cGSightStreet x0_s)] (.tree (.sl (cellsL cGSightPlace R) (List.length R) false)) := by
 refine VPure.runR mixed Tryz.call87 Tryz.func87 rfl (by simp [Tryz.ntmps87]; kernel_rfl) ?_
 obtain ⟨KF, h, kF, kN⟩ := fun_intro h
 simp only [g_ref02_Places] at h
 simp only [vz, mq, mqm, tyf, mqt, nm, seval]
 obtain ⟨K5, h, kR5, kG5, kB5, kN5⟩ := lbind_intro h kN
 obtain ⟨f5, hf5, h⟩ := call3 h
 obtain ⟨I5, hI5⟩ : ∃ I : Nat → St → Prop, I = (fun m st => ∃ (p5 : Nat) (c5_3 : List GSightPlace) (c5_4 : Int) (y5_0 : VV), p5 = m ∧ st.df = [] ∧ 4 ≤ st.nx ∧ st.H 0 = some (.cells (some 27) (cGSightStreet x0_s)) ∧ st.tm 1 = .ptr 0 0 ∧ st.tm 3 = y5_0 ∧ st.tm 4 = .lit (.int .i64 c5_4) ∧ ((∃ (β : Nat) (el : Option TypeId), y5_0 = .ref β 0 (List.length c5_3) 2 (List.length c5_3) ∧ β < st.nx ∧ β ≠ 0 ∧ st.H β = some (.cells el (cellsL cGSightPlace c5_3))) ∨ (y5_0 = .lit (.slice none 0 0) ∧ c5_3 = [])) ∧ K5 (f5 p5 c5_3 c5_4)) := ⟨_, rfl⟩
 refine loopK mixed (by kernel_rfl) I5 1000000 (by rw [hI5]; refine ⟨1000000, ([] : List GSightPlace), 0, .lit (.slice none 0 0), rfl, rfl, (show 4 ≤ 4 by omega), ?_, ?_, ?_, ?_, Or.inr ⟨rfl, rfl⟩, h⟩ <;> first | (simp only [ua, encM_nil, nm, seval] <;> rfl) | rfl) ?_
 rintro m ⟨tm, H, nx5, df⟩ hinv
 rw [hI5] at hinv
 obtain ⟨p5, c5_3, c5_4, y5_0, rfl, hdf, hn5, H6, e7, e8, e9, ow5_0, h⟩ := hinv
 simp only at hdf hn5 H6 e7 e8 e9 ow5_0
 have n10 := base_ne0 (m := 4) (b := nx5) (by omega)
 subst hdf hf5
 rcases ow5_0 with ⟨b5_0, el5_0, rfl, lq12, lq13, H11⟩ | ⟨rfl, rfl⟩
 ·have q12 := own_lt lq12
  have q13 := ne_f lq13
  cases p5 with
  | zero =>
   simp only [g_ref02_Places_l0, hs, reduceCtorEq] at h
   exact absurd h kN5
  | succ p5 =>
   simp only [g_ref02_Places_l0, hs, reduceCtorEq] at h
   cases d14 : (decide (c5_4 ≤ x0_s.Length))
   ·simp only [d14, hs, reduceCtorEq] at h
    replace h := kG5 _ h
    try dsimp only at h
    try simp only [hs] at h
    try simp only [vz, mq, mqm, tyf, mqt, n10, e7, e8, e9, H6, q12, H11, q13, d14, nm, seval]
    refine opd_ret (x := (.ref b5_0 0 (List.length c5_3) 2 (List.length c5_3))) (by first | (simp only [Tryz.results87, resV, resL, resV1, tgt_ptr, tgt_tp, uw, cr, tyf, mqt, n10, H6, q12, H11, q13, d14, nm, seval] <;> rfl) | rfl) ?_
    obtain rfl := kF _ h
    refine rr_tree ?_ ?_
    ·simp only [tre, tytre, Bool.and_self]
    ·first | (simp only [outV, uw, showV_ref, cr, tyf, mqt, nrm, tynrm, n10, e7, e8, e9, H6, q12, H11, q13, d14, nm, seval] <;> rfl) | rfl
   simp only [d14, hs, reduceCtorEq] at h
   simp only [vz, mq, mqm, tyf, mqt, n10, e7, e8, e9, H6, q12, H11, q13, d14, nm, seval]
   obtain ⟨K15, h, kR15, kG15, kB15, kN15⟩ := lbind_intro h kN5
   obtain ⟨f15, hf15, h⟩ := call3 h
   obtain ⟨I15, hI15⟩ : ∃ I : Nat → St → Prop, I = (fun m st => ∃ (p15 : Nat) (c15_3 : List GSightPlace) (c15_5 : Int) (y15_0 : VV), p15 = m ∧ st.df = [] ∧ nx5 + 5 ≤ st.nx ∧ st.H 0 = some (.cells (some 27) (cGSightStreet x0_s)) ∧ st.tm 1 = .ptr 0 0 ∧ st.tm 4 = .lit (.int .i64 c5_4) ∧ st.tm 3 = y15_0 ∧ st.tm 5 = .lit (.int .i64 c15_5) ∧ ((∃ (β : Nat) (el : Option TypeId), y15_0 = .ref β 0 (List.length c15_3) 2 (List.length c15_3) ∧ β < st.nx ∧ β ≠ 0 ∧ st.H β = some (.cells el (cellsL cGSightPlace c15_3))) ∨ (y15_0 = .lit (.slice none 0 0) ∧ c15_3 = [])) ∧ K15 (f15 p15 c15_3 c15_5)) := ⟨_, rfl⟩
   refine loopK mixed (by kernel_rfl) I15 1000000 (by rw [hI15]; refine ⟨1000000, c5_3, 1, .ref b5_0 0 (List.length c5_3) 2 (List.length c5_3), rfl, rfl, (show nx5 + 5 ≤ nx5 + 5 by omega), ?_, e7, e9, ?_, ?_, Or.inl ⟨b5_0, el5_0, rfl, (by first | omega | (simp only [nm, seval]; omega)), (by first | omega | (intro hh; simp only [n10, q12, q13, reduceCtorEq] at hh)), ?_⟩, h⟩ <;> first | (simp only [ua, encM_nil, n10, e7, e8, e9, H6, q12, H11, q13, d14, nm, seval] <;> rfl) | rfl) ?_
   rintro m ⟨tm, H, nx15, df⟩ hinv
   rw [hI15] at hinv
   obtain ⟨p15, c15_3, c15_5, y15_0, rfl, hdf, hn15, H16, e17, e18, e19, e20, ow15_0, h⟩ := hinv
   simp only at hdf hn15 H16 e17 e18 e19 e20 ow15_0
   have n21 := base_ne0 (m := 4) (b := nx15) (by omega)
   have n22 := base_ne (a := nx5) (m := 5) (b := nx15) (by omega)
   subst hdf hf15
   rcases ow15_0 with ⟨b15_0, el15_0, rfl, lq24, lq25, H23⟩ | ⟨rfl, rfl⟩
   ·have q24 := own_lt lq24
    have q25 := ne_f lq25
    cases p15 with
    | zero =>
     simp only [g_ref02_Places_l1, hs, reduceCtorEq] at h
     exact absurd h kN15
    | succ p15 =>
     simp only [g_ref02_Places_l1, hs, reduceCtorEq] at h
     cases d26 : (decide (c15_5 ≤ x0_s.Width))
     ·simp only [d26, hs, reduceCtorEq] at h
      replace h := kG15 _ h
      try dsimp only at h
      try simp only [hs] at h
      simp only [vz, mq, mqm, tyf, mqt, n10, q12, q13, d14, n21, n22, e17, e18, e19, e20, H16, q24, H23, q25, d26, nm, seval]
      exact ⟨p5, Nat.lt_succ_self _, by rw [hI5]; refine ⟨p5, c15_3, IntKind.i64.wrap (c5_4 + 1), .ref b15_0 0 (List.length c15_3) 2 (List.length c15_3), rfl, rfl, (show 4 ≤ nx15 + 7 by omega), ?_, e17, ?_, ?_, Or.inl ⟨b15_0, el15_0, rfl, (by first | omega | (simp only [nm, seval]; omega)), (by first | omega | (intro hh; simp only [n10, q12, q13, n21, n22, q24, q25, reduceCtorEq] at hh)), ?_⟩, h⟩ <;> first | (simp only [ua, encM_nil, n10, q12, q13, d14, n21, n22, e17, e18, e19, e20, H16, q24, H23, q25, d26, nm, seval] <;> rfl) | rfl⟩
     simp only [d26, hs, reduceCtorEq] at h
     cases g27 : (roomOk 16 (List.length (c15_3 ++ [(GSightPlace.mk c5_4 c15_5)])))
     ·simp only [g27, hs, reduceCtorEq] at h
      exact absurd h kN15
     simp only [g27, hs, reduceCtorEq] at h
     simp only [vz, mq, mqm, tyf, mqt, n10, q12, q13, d14, n21, n22, e17, e18, e19, e20, H16, q24, H23, q25, d26, g27, nm, seval]
     refine k_app (w := 2) (enc := cGSightPlace) (xs := c15_3) (ys := ([(GSightPlace.mk c5_4 c15_5)])) (el := el15_0) (el2 := (some 29)) (fun _ => rfl) lf73 ao73 Tryz.underlying73 (by first | rfl | assumption | (simp only [updH_apply, without_apply, et73, n10, q12, q13, n21, n22, H16, q24, H23, q25, nm, seval] <;> rfl) | (simp only [updH_apply, without_apply, cellsL_cons, cellsL_nil, mV_app, mV_app0, tyf, mqt, n10, q12, q13, d14, n21, n22, e17, e18, e19, e20, H16, q24, H23, q25, d26, g27, nm, seval]; done)) (by first | rfl | assumption | (simp only [updH_apply, without_apply, et73, n10, q12, q13, n21, n22, H16, q24, H23, q25, nm, seval] <;> rfl) | (simp only [updH_apply, without_apply, cellsL_cons, cellsL_nil, mV_app, mV_app0, tyf, mqt, n10, q12, q13, d14, n21, n22, e17, e18, e19, e20, H16, q24, H23, q25, d26, g27, nm, seval]; done)) (Nat.zero_lt_succ _) g27 ?_
     simp only [vz, mq, mqm, tyf, mqt, n10, q12, q13, d14, n21, n22, e17, e18, e19, e20, H16, q24, H23, q25, d26, g27, nm, seval]
     exact ⟨p15, Nat.lt_succ_self _, by rw [hI15]; refine ⟨p15, (c15_3 ++ [(GSightPlace.mk c5_4 c15_5)]), IntKind.i64.wrap (c15_5 + 1), .ref (nx15 + 9) 0 (List.length (c15_3 ++ [(GSightPlace.mk c5_4 c15_5)])) 2 (List.length (c15_3 ++ [(GSightPlace.mk c5_4 c15_5)])), rfl, rfl, (show nx5 + 5 ≤ nx15 + 14 by omega), ?_, e17, e18, ?_, ?_, Or.inl ⟨nx15 + 9, (sameEl el15_0 29), rfl, (by first | omega | (simp only [nm, seval]; omega)), (by first | omega | (intro hh; simp only [n10, q12, q13, n21, n22, q24, q25, reduceCtorEq] at hh)), ?_⟩, h⟩ <;> first | (simp only [ua, encM_nil, n10, q12, q13, d14, n21, n22, e17, e18, e19, e20, H16, q24, H23, q25, d26, nm, seval] <;> rfl) | rfl⟩
   ·cases p15 with
    | zero =>
     simp only [g_ref02_Places_l1, hs, reduceCtorEq] at h
     exact absurd h kN15
    | succ p15 =>
     simp only [g_ref02_Places_l1, hs, reduceCtorEq] at h
     cases d28 : (decide (c15_5 ≤ x0_s.Width))
     ·simp only [d28, hs, reduceCtorEq] at h
      replace h := kG15 _ h
      try dsimp only at h
      try simp only [hs] at h
      simp only [vz, mq, mqm, tyf, mqt, n10, q12, q13, d14, n21, n22, e17, e18, e19, e20, H16, d28, nm, seval]
      exact ⟨p5, Nat.lt_succ_self _, by rw [hI5]; refine ⟨p5, ([] : List GSightPlace), IntKind.i64.wrap (c5_4 + 1), .lit (.slice none 0 0), rfl, rfl, (show 4 ≤ nx15 + 7 by omega), ?_, e17, ?_, ?_, Or.inr ⟨rfl, rfl⟩, h⟩ <;> first | (simp only [ua, encM_nil, n10, q12, q13, d14, n21, n22, e17, e18, e19, e20, H16, d28, nm, seval] <;> rfl) | rfl⟩
     simp only [d28, hs, reduceCtorEq] at h
     cases g29 : (roomOk 16 (List.length (([] : List GSightPlace) ++ [(GSightPlace.mk c5_4 c15_5)])))
     ·simp only [g29, hs, reduceCtorEq] at h
      exact absurd h kN15
     simp only [g29, hs, reduceCtorEq] at h
     simp only [vz, mq, mqm, tyf, mqt, n10, q12, q13, d14, n21, n22, e17, e18, e19, e20, H16, d28, g29, nm, seval]
     refine k_appN (w := 2) (enc := cGSightPlace) (ys := ([(GSightPlace.mk c5_4 c15_5)])) (el2 := (some 29)) (fun _ => rfl) lf73 ao73 Tryz.underlying73 (by first | rfl | assumption | (simp only [updH_apply, without_apply, et73, n10, q12, q13, n21, n22, H16, nm, seval] <;> rfl) | (simp only [updH_apply, without_apply, cellsL_cons, cellsL_nil, mV_app, mV_app0, tyf, mqt, n10, q12, q13, d14, n21, n22, e17, e18, e19, e20, H16, d28, g29, nm, seval]; done)) (Nat.zero_lt_succ _) g29 ?_
     simp only [vz, mq, mqm, tyf, mqt, n10, q12, q13, d14, n21, n22, e17, e18, e19, e20, H16, d28, g29, nm, seval]
     exact ⟨p15, Nat.lt_succ_self _, by rw [hI15]; refine ⟨p15, (([] : List GSightPlace) ++ [(GSightPlace.mk c5_4 c15_5)]), IntKind.i64.wrap (c15_5 + 1), .ref (nx15 + 9) 0 (List.length (([] : List GSightPlace) ++ [(GSightPlace.mk c5_4 c15_5)])) 2 (List.length (([] : List GSightPlace) ++ [(GSightPlace.mk c5_4 c15_5)])), rfl, rfl, (show nx5 + 5 ≤ nx15 + 14 by omega), ?_, e17, e18, ?_, ?_, Or.inl ⟨nx15 + 9, (some 29), rfl, (by first | omega | (simp only [nm, seval]; omega)), (by first | omega | (intro hh; simp only [n10, q12, q13, n21, n22, reduceCtorEq] at hh)), ?_⟩, h⟩ <;> first | (simp only [ua, encM_nil, n10, q12, q13, d14, n21, n22, e17, e18, e19, e20, H16, d28, nm, seval] <;> rfl) | rfl⟩
 ·cases p5 with
  | zero =>
   simp only [g_ref02_Places_l0, hs, reduceCtorEq] at h
   exact absurd h kN5
  | succ p5 =>
   simp only [g_ref02_Places_l0, hs, reduceCtorEq] at h
   cases d30 : (decide (c5_4 ≤ x0_s.Length))
   ·simp only [d30, hs, reduceCtorEq] at h
    replace h := kG5 _ h
    try dsimp only at h
    try simp only [hs] at h
    try simp only [vz, mq, mqm, tyf, mqt, n10, e7, e8, e9, H6, d30, nm, seval]
    refine opd_ret (x := (.lit (.slice none 0 0))) (by first | (simp only [Tryz.results87, resV, resL, resV1, tgt_ptr, tgt_tp, uw, cr, tyf, mqt, n10, H6, d30, nm, seval] <;> rfl) | rfl) ?_
    obtain rfl := kF _ h
    refine rr_tree ?_ ?_
    ·simp only [tre, tytre, Bool.and_self]
    ·first | (simp only [outV, uw, showV_ref, cr, tyf, mqt, nrm, tynrm, n10, e7, e8, e9, H6, d30, nm, seval] <;> rfl) | rfl
   simp only [d30, hs, reduceCtorEq] at h
   simp only [vz, mq, mqm, tyf, mqt, n10, e7, e8, e9, H6, d30, nm, seval]
   obtain ⟨K31, h, kR31, kG31, kB31, kN31⟩ := lbind_intro h kN5
   obtain ⟨f31, hf31, h⟩ := call3 h
   obtain ⟨I31, hI31⟩ : ∃ I : Nat → St → Prop, I = (fun m st => ∃ (p31 : Nat) (c31_3 : List GSightPlace) (c31_5 : Int) (y31_0 : VV), p31 = m ∧ st.df = [] ∧ nx5 + 5 ≤ st.nx ∧ st.H 0 = some (.cells (some 27) (cGSightStreet x0_s)) ∧ st.tm 1 = .ptr 0 0 ∧ st.tm 4 = .lit (.int .i64 c5_4) ∧ st.tm 3 = y31_0 ∧ st.tm 5 = .lit (.int .i64 c31_5) ∧ ((∃ (β : Nat) (el : Option TypeId), y31_0 = .ref β 0 (List.length c31_3) 2 (List.length c31_3) ∧ β < st.nx ∧ β ≠ 0 ∧ st.H β = some (.cells el (cellsL cGSightPlace c31_3))) ∨ (y31_0 = .lit (.slice none 0 0) ∧ c31_3 = [])) ∧ K31 (f31 p31 c31_3 c31_5)) := ⟨_, rfl⟩
   refine loopK mixed (by kernel_rfl) I31 1000000 (by rw [hI31]; refine ⟨1000000, ([] : List GSightPlace), 1, .lit (.slice none 0 0), rfl, rfl, (show nx5 + 5 ≤ nx5 + 5 by omega), ?_, e7, e9, ?_, ?_, Or.inr ⟨rfl, rfl⟩, h⟩ <;> first | (simp only [ua, encM_nil, n10, e7, e8, e9, H6, d30, nm, seval] <;> rfl) | rfl) ?_
   rintro m ⟨tm, H, nx31, df⟩ hinv
   rw [hI31] at hinv
   obtain ⟨p31, c31_3, c31_5, y31_0, rfl, hdf, hn31, H32, e33, e34, e35, e36, ow31_0, h⟩ := hinv
   simp only at hdf hn31 H32 e33 e34 e35 e36 ow31_0
   have n37 := base_ne0 (m := 4) (b := nx31) (by omega)
   have n38 := base_ne (a := nx5) (m := 5) (b := nx31) (by omega)
   subst hdf hf31
   rcases ow31_0 with ⟨b31_0, el31_0, rfl, lq40, lq41, H39⟩ | ⟨rfl, rfl⟩
   ·have q40 := own_lt lq40
    have q41 := ne_f lq41
    cases p31 with
    | zero =>
     simp only [g_ref02_Places_l1, hs, reduceCtorEq] at h
     exact absurd h kN31
    | succ p31 =>
     simp only [g_ref02_Places_l1, hs, reduceCtorEq] at h
     cases d42 : (decide (c31_5 ≤ x0_s.Width))
     ·simp only [d42, hs, reduceCtorEq] at h
      replace h := kG31 _ h
      try dsimp only at h
      try simp only [hs] at h
      simp only [vz, mq, mqm, tyf, mqt, n10, d30, n37, n38, e33, e34, e35, e36, H32, q40, H39, q41, d42, nm, seval]
      exact ⟨p5, Nat.lt_succ_self _, by rw [hI5]; refine ⟨p5, c31_3, IntKind.i64.wrap (c5_4 + 1), .ref b31_0 0 (List.length c31_3) 2 (List.length c31_3), rfl, rfl, (show 4 ≤ nx31 + 7 by omega), ?_, e33, ?_, ?_, Or.inl ⟨b31_0, el31_0, rfl, (by first | omega | (simp only [nm, seval]; omega)), (by first | omega | (intro hh; simp only [n10, n37, n38, q40, q41, reduceCtorEq] at hh)), ?_⟩, h⟩ <;> first | (simp only [ua, encM_nil, n10, d30, n37, n38, e33, e34, e35, e36, H32, q40, H39, q41, d42, nm, seval] <;> rfl) | rfl⟩
     simp only [d42, hs, reduceCtorEq] at h
     cases g43 : (roomOk 16 (List.length (c31_3 ++ [(GSightPlace.mk c5_4 c31_5)])))
     ·simp only [g43, hs, reduceCtorEq] at h
      exact absurd h kN31
     simp only [g43, hs, reduceCtorEq] at h
     simp only [vz, mq, mqm, tyf, mqt, n10, d30, n37, n38, e33, e34, e35, e36, H32, q40, H39, q41, d42, g43, nm, seval]
     refine k_app (w := 2) (enc := cGSightPlace) (xs := c31_3) (ys := ([(GSightPlace.mk c5_4 c31_5)])) (el := el31_0) (el2 := (some 29)) (fun _ => rfl) lf73 ao73 Tryz.underlying73 (by first | rfl | assumption | (simp only [updH_apply, without_apply, et73, n10, n37, n38, H32, q40, H39, q41, nm, seval] <;> rfl) | (simp only [updH_apply, without_apply, cellsL_cons, cellsL_nil, mV_app, mV_app0, tyf, mqt, n10, d30, n37, n38, e33, e34, e35, e36, H32, q40, H39, q41, d42, g43, nm, seval]; done)) (by first | rfl | assumption | (simp only [updH_apply, without_apply, et73, n10, n37, n38, H32, q40, H39, q41, nm, seval] <;> rfl) | (simp only [updH_apply, without_apply, cellsL_cons, cellsL_nil, mV_app, mV_app0, tyf, mqt, n10, d30, n37, n38, e33, e34, e35, e36, H32, q40, H39, q41, d42, g43, nm, seval]; done)) (Nat.zero_lt_succ _) g43 ?_
     simp only [vz, mq, mqm, tyf, mqt, n10, d30, n37, n38, e33, e34, e35, e36, H32, q40, H39, q41, d42, g43, nm, seval]
     exact ⟨p31, Nat.lt_succ_self _, by rw [hI31]; refine ⟨p31, (c31_3 ++ [(GSightPlace.mk c5_4 c31_5)]), IntKind.i64.wrap (c31_5 + 1), .ref (nx31 + 9) 0 (List.length (c31_3 ++ [(GSightPlace.mk c5_4 c31_5)])) 2 (List.length (c31_3 ++ [(GSightPlace.mk c5_4 c31_5)])), rfl, rfl, (show nx5 + 5 ≤ nx31 + 14 by omega), ?_, e33, e34, ?_, ?_, Or.inl ⟨nx31 + 9, (sameEl el31_0 29), rfl, (by first | omega | (simp only [nm, seval]; omega)), (by first | omega | (intro hh; simp only [n10, n37, n38, q40, q41, reduceCtorEq] at hh)), ?_⟩, h⟩ <;> first | (simp only [ua, encM_nil, n10, d30, n37, n38, e33, e34, e35, e36, H32, q40, H39, q41, d42, nm, seval] <;> rfl) | rfl⟩
   ·cases p31 with
    | zero =>
     simp only [g_ref02_Places_l1, hs, reduceCtorEq] at h
     exact absurd h kN31
    | succ p31 =>
     simp only [g_ref02_Places_l1, hs, reduceCtorEq] at h
     cases d44 : (decide (c31_5 ≤ x0_s.Width))
     ·simp only [d44, hs, reduceCtorEq] at h
      replace h := kG31 _ h
      try dsimp only at h
      try simp only [hs] at h
      simp only [vz, mq, mqm, tyf, mqt, n10, d30, n37, n38, e33, e34, e35, e36, H32, d44, nm, seval]
      exact ⟨p5, Nat.lt_succ_self _, by rw [hI5]; refine ⟨p5, ([] : List GSightPlace), IntKind.i64.wrap (c5_4 + 1), .lit (.slice none 0 0), rfl, rfl, (show 4 ≤ nx31 + 7 by omega), ?_, e33, ?_, ?_, Or.inr ⟨rfl, rfl⟩, h⟩ <;> first | (simp only [ua, encM_nil, n10, d30, n37, n38, e33, e34, e35, e36, H32, d44, nm, seval] <;> rfl) | rfl⟩
     simp only [d44, hs, reduceCtorEq] at h
     cases g45 : (roomOk 16 (List.length (([] : List GSightPlace) ++ [(GSightPlace.mk c5_4 c31_5)])))
     ·simp only [g45, hs, reduceCtorEq] at h
      exact absurd h kN31
     simp only [g45, hs, reduceCtorEq] at h
     simp only [vz, mq, mqm, tyf, mqt, n10, d30, n37, n38, e33, e34, e35, e36, H32, d44, g45, nm, seval]
     refine k_appN (w := 2) (enc := cGSightPlace) (ys := ([(GSightPlace.mk c5_4 c31_5)])) (el2 := (some 29)) (fun _ => rfl) lf73 ao73 Tryz.underlying73 (by first | rfl | assumption | (simp only [updH_apply, without_apply, et73, n10, n37, n38, H32, nm, seval] <;> rfl) | (simp only [updH_apply, without_apply, cellsL_cons, cellsL_nil, mV_app, mV_app0, tyf, mqt, n10, d30, n37, n38, e33, e34, e35, e36, H32, d44, g45, nm, seval]; done)) (Nat.zero_lt_succ _) g45 ?_
     simp only [vz, mq, mqm, tyf, mqt, n10, d30, n37, n38, e33, e34, e35, e36, H32, d44, g45, nm, seval]
     exact ⟨p31, Nat.lt_succ_self _, by rw [hI31]; refine ⟨p31, (([] : List GSightPlace) ++ [(GSightPlace.mk c5_4 c31_5)]), IntKind.i64.wrap (c31_5 + 1), .ref (nx31 + 9) 0 (List.length (([] : List GSightPlace) ++ [(GSightPlace.mk c5_4 c31_5)])) 2 (List.length (([] : List GSightPlace) ++ [(GSightPlace.mk c5_4 c31_5)])), rfl, rfl, (show nx5 + 5 ≤ nx31 + 14 by omega), ?_, e33, e34, ?_, ?_, Or.inl ⟨nx31 + 9, (some 29), rfl, (by first | omega | (simp only [nm, seval]; omega)), (by first | omega | (intro hh; simp only [n10, n37, n38, reduceCtorEq] at hh)), ?_⟩, h⟩ <;> first | (simp only [ua, encM_nil, n10, d30, n37, n38, e33, e34, e35, e36, H32, d44, nm, seval] <;> rfl) | rfl⟩
end Go.V
end
