/- Part of a proof: a logic of values by content, lifted functions, what follows. -/
import Derived.Test.YtdhkepdioiicfaaGreatDoorQbf
import Derived.Test.YtdhkepdioiicfaaGreatDoorQbl
import Derived.Test.YtdhkepdioiicfaaGreatDoorQbi
import Derived.Test.YtdhkepdioiicfaaGreatDoorQbj
import Derived.Test.YtdhkepdioiicfaaGreatDoorQbm
import Derived.Test.YtdhkepdioiicfaaGreatDoorQbn
import Derived.Test.YtdhkepdioiicfaaGreatDoorQay
import Derived.Test.YtdhkepdioiicfaaGreatDoorProg
set_option linter.all false
set_option maxRecDepth 4000
set_option maxHeartbeats 4000000
section
namespace Go.V
open Go Go.Proofs
def g_sight_Farthest_l1 (x0_s : GSightStreet) (x3 : GSightBoard) (c0_8 : Int) : Nat → Int → Int → Int → Bool → Option (LOut (Unit) (Int × Int × Bool))
 | 0, c1_13, c1_o0, c1_o1, c1_o2 => some (.go (c1_o0, c1_o1, c1_o2))
 | k1 + 1, c1_13, c1_o0, c1_o1, c1_o2 => Option.bind (g_sight_isSurelyRead x0_s x3 (GSightPlace.mk c0_8 (c1_13 + 1))) (fun r12 => cond (r12) (cond (c1_o2) (Option.bind (g_sight_atWorst x0_s x3 (GSightPlace.mk c0_8 (c1_13 + 1))) (fun r13 => Option.bind (g_sight_view_far r13) (fun r14 => Option.bind (g_sight_atWorst x0_s x3 (GSightPlace.mk c1_o0 c1_o1)) (fun r15 => Option.bind (g_sight_view_far r15) (fun r16 => cond (decide (r14 > r16)) (g_sight_Farthest_l1 x0_s x3 c0_8 k1 (c1_13 + 1) c0_8 (c1_13 + 1) true) (g_sight_Farthest_l1 x0_s x3 c0_8 k1 (c1_13 + 1) c1_o0 c1_o1 true)))))) (g_sight_Farthest_l1 x0_s x3 c0_8 k1 (c1_13 + 1) c0_8 (c1_13 + 1) true)) (g_sight_Farthest_l1 x0_s x3 c0_8 k1 (c1_13 + 1) c1_o0 c1_o1 c1_o2))
def g_sight_Farthest_l0 (x0_s : GSightStreet) (x3 : GSightBoard) : Nat → Int → Int → Int → Bool → Option (LOut (Unit) (Int × Int × Bool))
 | 0, c0_8, c0_o0, c0_o1, c0_o2 => some (.go (c0_o0, c0_o1, c0_o2))
 | k0 + 1, c0_8, c0_o0, c0_o1, c0_o2 => cond (boundOk x0_s.Width) (lbind (g_sight_Farthest_l1 x0_s x3 c0_8 (Int.toNat (x0_s.Width - 0)) 0 c0_o0 c0_o1 c0_o2) (fun r18 => some (.ret r18)) (fun c17 => g_sight_Farthest_l0 x0_s x3 k0 (c0_8 + 1) c17.1 c17.2.1 c17.2.2) (fun _ _ => none)) none
def g_sight_Farthest (x0_s : GSightStreet) (x1_board : Int) : Option (GSightPlace × Int) := Option.bind (g_sight_isStreet x0_s) (fun r1 => cond (r1) (Option.bind (g_sight_isBoard x0_s x1_board) (fun r2 => cond (r2) (Option.bind (getI x0_s.Boards x1_board) (fun x3 => cond (boundOk (IntKind.i64.wrap (x0_s.Length + 1))) (lbind (g_sight_Farthest_l0 x0_s x3 (Int.toNat ((IntKind.i64.wrap (x0_s.Length + 1)) - 0)) 0 0 0 false) (fun r20 => some ((GSightPlace.mk 0 0), 5)) (fun c19 => cond (c19.2.2) (some ((GSightPlace.mk c19.1 c19.2.1), 0)) (some ((GSightPlace.mk 0 0), 5))) (fun _ _ => none)) none)) (some ((GSightPlace.mk 0 0), 2)))) (some ((GSightPlace.mk 0 0), 2)))
theorem g_sight_Farthest_ok (x0_s : GSightStreet) (x1_board : Int) (R : GSightPlace × Int) (h : g_sight_Farthest x0_s x1_board = some R) : VPure Tryz.prog G0 18 [.agg (cGSightStreet x0_s), .lit (.int .i64 x1_board)] (.tree (.tup [.agg (cGSightPlace R.1), .lit (.int .i64 R.2)])) := by
 refine VPure.runR mixed Tryz.call18 Tryz.func18 rfl (by simp [Tryz.ntmps18]; kernel_rfl) ?_
 obtain ⟨KF, h, kF, kN⟩ := fun_intro h
 simp only [g_sight_Farthest] at h
 rcases o22 : (g_sight_isStreet x0_s) with _ | r21
 ·simp only [o22, hs] at h
  exact absurd h kN
 simp only [o22, hs] at h
 simp only [vz, tyf, nm, seval]
 refine ktree (args0 := [.agg (cGSightStreet x0_s)]) (by first | (simp only [nrm, tynrm] <;> rfl) | rfl) (by simp only [tre, tytre, Bool.and_self]) (g_sight_isStreet_ok _ _ o22) ?_
 refine fin_cut (fun tm => tm 1 = .lit (.int .i64 x1_board) ∧ tm 2 = .ptr 0 0 ∧ tm 4 = .ptr 1 0 ∧ tm 11 = .lit (.bool r21) ∧ True) (by refine ⟨?_, ?_, ?_, ?_, trivial⟩ <;> first | (simp only [ua, nm, seval] <;> rfl) | rfl) ?_
 rintro tm ⟨e23, e24, e25, e26, _⟩
 cases d27 : (r21)
 ·simp only [d27, hs] at h
  try simp only [vz, tyf, e23, e24, e25, e26, d27, nm, seval]
  refine opd_ret (x := (.tup [.agg ([.lit (.int .i64 0)] ++ [.lit (.int .i64 0)]), .lit (.int .i64 2)])) (by first | (simp only [Tryz.results18, resV, resL, resV1, tgt_ptr, tgt_tp, uw, cr, tyf, e23, e24, e25, e26, d27, nm, seval] <;> rfl) | rfl) ?_
  obtain rfl := kF _ h
  refine rr_tree ?_ ?_
  ·simp only [tre, tytre, Bool.and_self]
  ·first | (simp only [outV, uw, showV_ref, cr, tyf, nrm, tynrm, e23, e24, e25, e26, d27, nm, seval] <;> rfl) | rfl
 simp only [d27, hs] at h
 rcases o29 : (g_sight_isBoard x0_s x1_board) with _ | r28
 ·simp only [o29, hs] at h
  exact absurd h kN
 simp only [o29, hs] at h
 simp only [vz, tyf, e23, e24, e25, e26, d27, nm, seval]
 refine ktree (args0 := [.agg (cGSightStreet x0_s), .lit (.int .i64 x1_board)]) (by first | (simp only [nrm, tynrm] <;> rfl) | rfl) (by simp only [tre, tytre, Bool.and_self]) (g_sight_isBoard_ok _ _ _ o29) ?_
 refine fin_cut (fun tm => tm 1 = .lit (.int .i64 x1_board) ∧ tm 2 = .ptr 0 0 ∧ tm 4 = .ptr 1 0 ∧ tm 13 = .lit (.bool false) ∧ tm 16 = .lit (.bool r28) ∧ True) (by refine ⟨e23, e24, e25, ?_, ?_, trivial⟩ <;> first | (simp only [ua, e23, e24, e25, e26, d27, nm, seval] <;> rfl) | rfl) ?_
 rintro tm ⟨e30, e31, e32, e33, e34, _⟩
 cases d35 : (r28)
 ·simp only [d35, hs] at h
  try simp only [vz, tyf, d27, e30, e31, e32, e33, e34, d35, nm, seval]
  refine opd_ret (x := (.tup [.agg ([.lit (.int .i64 0)] ++ [.lit (.int .i64 0)]), .lit (.int .i64 2)])) (by first | (simp only [Tryz.results18, resV, resL, resV1, tgt_ptr, tgt_tp, uw, cr, tyf, d27, e30, e31, e32, e33, e34, d35, nm, seval] <;> rfl) | rfl) ?_
  obtain rfl := kF _ h
  refine rr_tree ?_ ?_
  ·simp only [tre, tytre, Bool.and_self]
  ·first | (simp only [outV, uw, showV_ref, cr, tyf, nrm, tynrm, d27, e30, e31, e32, e33, e34, d35, nm, seval] <;> rfl) | rfl
 simp only [d35, hs] at h
 rcases o37 : (getI x0_s.Boards x1_board) with _ | x36
 ·simp only [o37, hs] at h
  exact absurd h kN
 simp only [o37, hs] at h
 try simp only [vz, tyf, d27, e30, e31, e32, e33, e34, d35, (ix24 o37), nm, seval]
 refine kopen ?_
 rw [openK_eq]
 refine VOpen.run mixed Tryz.call64 Tryz.func64 rfl (by simp [Tryz.ntmps64]; kernel_rfl) ?_
 try simp only [vz, tyf, d27, d35, (ix24 o37), nm, seval]
 refine kopen ?_
 rw [openK_eq]
 refine VOpen.run mixed Tryz.call98 Tryz.func98 rfl (by simp [Tryz.ntmps98]; kernel_rfl) ?_
 try simp only [vz, tyf, d27, d35, (ix24 o37), nm, seval]
 refine opd_ret (x := (VV.fn (Fn.func 126) [] [.ptr 39 0])) (by first | (simp only [Tryz.results98, resV, resL, resV1, tgt_ptr, tgt_tp, uw, cr, tyf, d27, d35, (ix24 o37), nm, seval] <;> rfl) | rfl) ?_
 try simp only [vz, tyf, d27, d35, (ix24 o37), nm, seval]
 refine kopen ?_
 rw [openK_eq]
 refine VOpen.run mixed Tryz.call100 Tryz.func100 rfl (by simp [Tryz.ntmps100]; kernel_rfl) ?_
 try simp only [vz, tyf, d27, d35, (ix24 o37), nm, seval]
 refine opd_ret (x := (VV.fn (Fn.func 127) [] [.ptr 43 0, .ptr 44 0])) (by first | (simp only [Tryz.results100, resV, resL, resV1, tgt_ptr, tgt_tp, uw, cr, tyf, d27, d35, (ix24 o37), nm, seval] <;> rfl) | rfl) ?_
 try simp only [vz, tyf, d27, d35, (ix24 o37), nm, seval]
 refine opd_ret (x := (VV.fn (Fn.func 127) [] [.ptr 43 0, .ptr 44 0])) (by first | (simp only [Tryz.results64, resV, resL, resV1, tgt_ptr, tgt_tp, uw, cr, tyf, d27, d35, (ix24 o37), nm, seval] <;> rfl) | rfl) ?_
 try simp only [vz, tyf, d27, d35, (ix24 o37), e30, e31, e32, e33, e34, nm, seval]
 refine kopen ?_
 rw [openK_eq]
 refine VOpen.run mixed Tryz.call63 Tryz.func63 rfl (by simp [Tryz.ntmps63]; kernel_rfl) ?_
 try simp only [vz, tyf, d27, d35, (ix24 o37), nm, seval]
 refine range_open (f := 127) (first := []) (captured := [.ptr 43 0, .ptr 44 0]) (by first | (simp only [ev_tmp, ev_func, d27, d35, (ix24 o37), upd_apply, nm, seval] <;> rfl) | rfl) ?_
 intro LO38 hLO38
 refine VOpen.run mixed Tryz.call127 Tryz.func127 rfl (by simp [Tryz.ntmps127]; kernel_rfl) ?_
 try simp only [vz, tyf, d27, d35, (ix24 o37), nm, seval]
 refine range_open (f := 126) (first := []) (captured := [.ptr 39 0]) (by first | (simp only [ev_tmp, ev_func, d27, d35, (ix24 o37), upd_apply, nm, seval] <;> rfl) | rfl) ?_
 intro LO39 hLO39
 refine VOpen.run mixed Tryz.call126 Tryz.func126 rfl (by simp [Tryz.ntmps126]; kernel_rfl) ?_
 cases g41 : (boundOk (IntKind.i64.wrap (x0_s.Length + 1)))
 ·simp only [g41, hs] at h
  exact absurd h kN
 simp only [g41, hs] at h
 simp only [vz, tyf, d27, d35, (ix24 o37), g41, nm, seval]
 obtain ⟨K40, h, kR40, kG40, kB40, kN40⟩ := lbind_intro h kN
 obtain ⟨f40, hf40, h⟩ := call5 h
 obtain ⟨I40, hI40⟩ : ∃ I : Nat → St → Prop, I = (fun m st => ∃ (p40 : Nat) (c40_8 : Int) (c40_o0 : Int) (c40_o1 : Int) (c40_o2 : Bool), p40 = m ∧ loOk c40_8 = true ∧ Int.toNat ((IntKind.i64.wrap (x0_s.Length + 1)) - c40_8) = p40 ∧ st.df = [] ∧ 65 ≤ st.nx ∧ st.H 0 = some (.cells (some 27) (cGSightStreet x0_s)) ∧ st.H 1 = some (.cells (some 34) ([.lit (.int .i64 0)] ++ [.lit (.int .i64 0)])) ∧ st.H 17 = some (.cells (some 40) (cGSightBoard x36)) ∧ st.H 39 = some (.cells (some 27) (cGSightStreet x0_s)) ∧ st.H 43 = some (.cells (some 108) ([VV.fn (Fn.func 126) [] [.ptr 39 0]])) ∧ st.H 44 = some (.cells (some 100) ([VV.fn (Fn.func 65) [] [.ptr 0 0, .ptr 17 0]])) ∧ st.H 48 = some (.cells (some 52) ([VV.fn (Fn.func 60) [] [.ptr 0 0, .ptr 17 0]])) ∧ st.H 49 = some (.cells (some 34) ([.lit (.int .i64 0)] ++ [.lit (.int .i64 0)])) ∧ st.H 51 = some (.cells (some 34) ([.lit (.int .i64 c40_o0)] ++ [.lit (.int .i64 c40_o1)])) ∧ st.H 52 = some (.cells (some 4) ([.lit (.bool c40_o2)])) ∧ st.H 55 = some (.deferred (some [])) ∧ st.H 56 = some LO38 ∧ st.H 57 = some (.cells (some 100) ([.yl 56])) ∧ st.H 59 = some (.deferred (some [])) ∧ st.H 60 = some LO39 ∧ st.tm 0 = .yl 60 ∧ st.tm 1 = .ptr 39 0 ∧ st.tm 7 = .lit (.int .i64 (IntKind.i64.wrap (x0_s.Length + 1))) ∧ st.tm 8 = .lit (.int .i64 c40_8) ∧ K40 (f40 p40 c40_8 c40_o0 c40_o1 c40_o2)) := ⟨_, rfl⟩
 refine loopK mixed (by kernel_rfl) I40 (Int.toNat ((IntKind.i64.wrap (x0_s.Length + 1)) - 0)) (by rw [hI40]; refine ⟨Int.toNat ((IntKind.i64.wrap (x0_s.Length + 1)) - 0), 0, 0, 0, false, rfl, (by rfl), rfl, rfl, (show 65 ≤ 65 by omega), ?_, ?_, ?_, ?_, ?_, ?_, ?_, ?_, ?_, ?_, ?_, ?_, ?_, ?_, ?_, ?_, ?_, ?_, ?_, h⟩ <;> first | (simp only [ua, d27, d35, nm, seval] <;> rfl) | rfl) ?_
 rintro m ⟨tm, H, nx40, df⟩ hinv
 rw [hI40] at hinv
 obtain ⟨p40, c40_8, c40_o0, c40_o1, c40_o2, rfl, hi40, hp40, hdf, hn40, H42, H43, H44, H45, H46, H47, H48, H49, H50, H51, H52, H53, H54, H55, H56, e57, e58, e59, e60, h⟩ := hinv
 simp only at hdf hn40 H42 H43 H44 H45 H46 H47 H48 H49 H50 H51 H52 H53 H54 H55 H56 e57 e58 e59 e60
 have n61 := base_ne0 (m := 65) (b := nx40) (by omega)
 subst hdf hf40
 cases p40 with
 | zero =>
  have d62 : (decide (c40_8 < (IntKind.i64.wrap (x0_s.Length + 1)))) = false := cnt_not_lt hp40
  simp only [g_sight_Farthest_l0, hs, reduceCtorEq] at h
  replace h := kG40 _ h
  try dsimp only at h
  try simp only [hs] at h
  try simp only [vz, tyf, d27, d35, (ix24 o37), g41, n61, e57, e58, e59, e60, H42, H43, H44, H45, H46, H47, H48, H49, H50, H51, H52, H53, H54, H55, H56, d62, nm, seval]
  refine opd_normal (x := .tup []) (by simp [Tryz.results126, resV, resL]) ?_
  refine rangeEnd_go hLO39 (by simp only [updH_apply, without_apply, n61, H42, H43, H44, H45, H46, H47, H48, H49, H50, H51, H52, H53, H54, H55, H56, nm, seval] <;> rfl) ?_
  intro LX63
  try simp only [vz, tyf, d27, d35, (ix24 o37), g41, n61, H42, H43, H44, H45, H46, H47, H48, H49, H50, H51, H52, H53, H54, H55, H56, d62, nm, seval]
  refine opd_collN (by simp only [updH_apply, without_apply, n61, H42, H43, H44, H45, H46, H47, H48, H49, H50, H51, H52, H53, H54, H55, H56, nm, seval] <;> rfl) ?_
  try simp only [vz, tyf, d27, d35, (ix24 o37), g41, n61, H42, H43, H44, H45, H46, H47, H48, H49, H50, H51, H52, H53, H54, H55, H56, d62, nm, seval]
  refine opd_normal (x := .tup []) (by simp [Tryz.results127, resV, resL]) ?_
  refine rangeEnd_go hLO38 (by simp only [updH_apply, without_apply, n61, H42, H43, H44, H45, H46, H47, H48, H49, H50, H51, H52, H53, H54, H55, H56, nm, seval] <;> rfl) ?_
  intro LX64
  simp only [vz, tyf, d27, d35, (ix24 o37), g41, n61, H42, H43, H44, H45, H46, H47, H48, H49, H50, H51, H52, H53, H54, H55, H56, d62, nm, seval]
  refine cwp_drawTF (fun tm => tm 4 = .ptr 49 0 ∧ tm 6 = .ptr 51 0 ∧ tm 7 = .ptr 52 0 ∧ True) (by refine ⟨?_, ?_, ?_, trivial⟩ <;> first | (simp only [ua, d27, d35, n61, H42, H43, H44, H45, H46, H47, H48, H49, H50, H51, H52, H53, H54, H55, H56, d62, nm, seval] <;> rfl) | rfl) ?_
  rintro tm ⟨e65, e66, e67, _⟩
  have b68 := And.intro d27 (And.intro d35 (And.intro g41 (And.intro n61 (And.intro H42 (And.intro H43 (And.intro H44 (And.intro H45 (And.intro H46 (And.intro H47 (And.intro H48 (And.intro H49 (And.intro H50 (And.intro H51 (And.intro H52 (And.intro H53 (And.intro H54 (And.intro H55 (And.intro H56 d62))))))))))))))))))
  simp only [vz, tyf, b68, (ix24 o37), e65, e66, e67, nm, seval]
  refine drawK_nil ⟨?_, ?_⟩
  ·simp only [traceR_cons, traceR_nil, hitK_quiet, hitK_nil, and_true, true_and]
   repeat' (first | exact trivial | refine And.intro ?_ ?_ | rw [hitK_quiet] | rw [hitK_cons] | exact Or.inl (by decide +kernel) | exact Or.inl (by dsimp only; decide +kernel) | (refine Or.inr ⟨?_, ?_⟩ <;> simp; done) | (refine Or.inr ⟨?_, ?_⟩ <;> simp <;> omega) | (refine Or.inr ⟨?_, ?_⟩ <;> simp [VEff.wr] <;> omega))
  try simp only [vz, tyf, b68, (ix24 o37), e65, e66, e67, nm, seval]
  refine opd_coll (by simp only [updH_apply, without_apply, b68, nm, seval] <;> rfl) ?_
  try simp only [vz, tyf, b68, (ix24 o37), e65, e66, e67, nm, seval]
  refine opd_ret (x := (.tup [.agg ([.lit (.int .i64 c40_o0)] ++ [.lit (.int .i64 c40_o1)]), .lit (.bool c40_o2)])) (by first | (simp only [Tryz.results63, resV, resL, resV1, tgt_ptr, tgt_tp, uw, cr, tyf, b68, (ix24 o37), e65, e66, e67, nm, seval] <;> rfl) | rfl) ?_
  cases d69 : (c40_o2)
  ·simp only [d69, hs] at h
   try simp only [vz, tyf, b68, (ix24 o37), e30, e31, e32, e33, e34, d69, nm, seval]
   refine opd_ret (x := (.tup [.agg ([.lit (.int .i64 0)] ++ [.lit (.int .i64 0)]), .lit (.int .i64 5)])) (by first | (simp only [Tryz.results18, resV, resL, resV1, tgt_ptr, tgt_tp, uw, cr, tyf, b68, (ix24 o37), e30, e31, e32, e33, e34, d69, nm, seval] <;> rfl) | rfl) ?_
   obtain rfl := kF _ h
   refine rr_tree ?_ ?_
   ·simp only [tre, tytre, Bool.and_self]
   ·first | (simp only [outV, uw, showV_ref, cr, tyf, nrm, tynrm, b68, (ix24 o37), e30, e31, e32, e33, e34, d69, nm, seval] <;> rfl) | rfl
  simp only [d69, hs] at h
  try simp only [vz, tyf, b68, (ix24 o37), e30, e31, e32, e33, e34, d69, nm, seval]
  refine opd_ret (x := (.tup [.agg ([.lit (.int .i64 c40_o0)] ++ [.lit (.int .i64 c40_o1)]), .lit (.int .i64 0)])) (by first | (simp only [Tryz.results18, resV, resL, resV1, tgt_ptr, tgt_tp, uw, cr, tyf, b68, (ix24 o37), e30, e31, e32, e33, e34, d69, nm, seval] <;> rfl) | rfl) ?_
  obtain rfl := kF _ h
  refine rr_tree ?_ ?_
  ·simp only [tre, tytre, Bool.and_self]
  ·first | (simp only [outV, uw, showV_ref, cr, tyf, nrm, tynrm, b68, (ix24 o37), e30, e31, e32, e33, e34, d69, nm, seval] <;> rfl) | rfl
 | succ p40 =>
  have d70 : (decide (c40_8 < (IntKind.i64.wrap (x0_s.Length + 1)))) = true := cnt_lt hp40
  have w71 := cnt_wrap hi40 hp40 g41
  simp only [g_sight_Farthest_l0, hs, reduceCtorEq] at h
  cases g73 : (boundOk x0_s.Width)
  ·simp only [g73, hs] at h
   exact absurd h kN40
  simp only [g73, hs] at h
  simp only [vz, tyf, d27, d35, (ix24 o37), g41, n61, e57, e58, e59, e60, H42, H43, H44, H45, H46, H47, H48, H49, H50, H51, H52, H53, H54, H55, H56, d70, w71, g73, nm, seval]
  obtain ⟨K72, h, kR72, kG72, kB72, kN72⟩ := lbind_intro h kN40
  obtain ⟨f72, hf72, h⟩ := call5 h
  obtain ⟨I72, hI72⟩ : ∃ I : Nat → St → Prop, I = (fun m st => ∃ (p72 : Nat) (c72_13 : Int) (c72_o0 : Int) (c72_o1 : Int) (c72_o2 : Bool), p72 = m ∧ loOk c72_13 = true ∧ Int.toNat (x0_s.Width - c72_13) = p72 ∧ st.df = [] ∧ nx40 + 6 ≤ st.nx ∧ st.H 0 = some (.cells (some 27) (cGSightStreet x0_s)) ∧ st.H 1 = some (.cells (some 34) ([.lit (.int .i64 0)] ++ [.lit (.int .i64 0)])) ∧ st.H 17 = some (.cells (some 40) (cGSightBoard x36)) ∧ st.H 39 = some (.cells (some 27) (cGSightStreet x0_s)) ∧ st.H 43 = some (.cells (some 108) ([VV.fn (Fn.func 126) [] [.ptr 39 0]])) ∧ st.H 44 = some (.cells (some 100) ([VV.fn (Fn.func 65) [] [.ptr 0 0, .ptr 17 0]])) ∧ st.H 48 = some (.cells (some 52) ([VV.fn (Fn.func 60) [] [.ptr 0 0, .ptr 17 0]])) ∧ st.H 49 = some (.cells (some 34) ([.lit (.int .i64 0)] ++ [.lit (.int .i64 0)])) ∧ st.H 51 = some (.cells (some 34) ([.lit (.int .i64 c72_o0)] ++ [.lit (.int .i64 c72_o1)])) ∧ st.H 52 = some (.cells (some 4) ([.lit (.bool c72_o2)])) ∧ st.H 55 = some (.deferred (some [])) ∧ st.H 56 = some LO38 ∧ st.H 57 = some (.cells (some 100) ([.yl 56])) ∧ st.H 59 = some (.deferred (some [])) ∧ st.H 60 = some LO39 ∧ st.tm 0 = .yl 60 ∧ st.tm 1 = .ptr 39 0 ∧ st.tm 3 = .lit (.int .i64 c40_8) ∧ st.tm 7 = .lit (.int .i64 (IntKind.i64.wrap (x0_s.Length + 1))) ∧ st.tm 8 = .lit (.int .i64 c40_8) ∧ st.tm 12 = .lit (.int .i64 x0_s.Width) ∧ st.tm 13 = .lit (.int .i64 c72_13) ∧ K72 (f72 p72 c72_13 c72_o0 c72_o1 c72_o2)) := ⟨_, rfl⟩
  refine loopK mixed (by kernel_rfl) I72 (Int.toNat (x0_s.Width - 0)) (by rw [hI72]; refine ⟨Int.toNat (x0_s.Width - 0), 0, c40_o0, c40_o1, c40_o2, rfl, (by rfl), rfl, rfl, (show nx40 + 6 ≤ nx40 + 6 by omega), ?_, ?_, ?_, ?_, ?_, ?_, ?_, ?_, ?_, ?_, ?_, ?_, ?_, ?_, ?_, e57, e58, ?_, e59, e60, ?_, ?_, h⟩ <;> first | (simp only [ua, d27, d35, n61, e57, e58, e59, e60, H42, H43, H44, H45, H46, H47, H48, H49, H50, H51, H52, H53, H54, H55, H56, d70, w71, nm, seval] <;> rfl) | rfl) ?_
  rintro m ⟨tm, H, nx72, df⟩ hinv
  rw [hI72] at hinv
  obtain ⟨p72, c72_13, c72_o0, c72_o1, c72_o2, rfl, hi72, hp72, hdf, hn72, H74, H75, H76, H77, H78, H79, H80, H81, H82, H83, H84, H85, H86, H87, H88, e89, e90, e91, e92, e93, e94, e95, h⟩ := hinv
  simp only at hdf hn72 H74 H75 H76 H77 H78 H79 H80 H81 H82 H83 H84 H85 H86 H87 H88 e89 e90 e91 e92 e93 e94 e95
  have n96 := base_ne0 (m := 65) (b := nx72) (by omega)
  have n97 := base_ne (a := nx40) (m := 6) (b := nx72) (by omega)
  subst hdf hf72
  cases p72 with
  | zero =>
   have d98 : (decide (c72_13 < x0_s.Width)) = false := cnt_not_lt hp72
   simp only [g_sight_Farthest_l1, hs, reduceCtorEq] at h
   replace h := kG72 _ h
   try dsimp only at h
   try simp only [hs] at h
   simp only [vz, tyf, d27, d35, (ix24 o37), g41, n61, d70, w71, g73, n96, n97, e89, e90, e91, e92, e93, e94, e95, H74, H75, H76, H77, H78, H79, H80, H81, H82, H83, H84, H85, H86, H87, H88, d98, nm, seval]
   exact ⟨p40, Nat.lt_succ_self _, by rw [hI40]; refine ⟨p40, c40_8 + 1, c72_o0, c72_o1, c72_o2, rfl, cnt_lo hi40, cnt_next hp40, rfl, (show 65 ≤ nx72 + 3 by omega), ?_, ?_, ?_, ?_, ?_, ?_, ?_, ?_, ?_, ?_, ?_, ?_, ?_, ?_, ?_, e89, e90, e92, ?_, h⟩ <;> first | (simp only [ua, d27, d35, n61, d70, w71, n96, n97, e89, e90, e91, e92, e93, e94, e95, H74, H75, H76, H77, H78, H79, H80, H81, H82, H83, H84, H85, H86, H87, H88, d98, nm, seval] <;> rfl) | rfl⟩
  | succ p72 =>
   have d99 : (decide (c72_13 < x0_s.Width)) = true := cnt_lt hp72
   have w100 := cnt_wrap hi72 hp72 g73
   simp only [g_sight_Farthest_l1, hs, reduceCtorEq] at h
   try simp only [vz, tyf, d27, d35, (ix24 o37), g41, n61, d70, w71, g73, n96, n97, e89, e90, e91, e92, e93, e94, e95, H74, H75, H76, H77, H78, H79, H80, H81, H82, H83, H84, H85, H86, H87, H88, d99, w100, rg, nm, seval]
   refine yield_open mixed (psl := [6]) hLO39 (by simp only [updH_apply, without_apply, n61, n96, n97, H74, H75, H76, H77, H78, H79, H80, H81, H82, H83, H84, H85, H86, H87, H88, nm, seval] <;> rfl) tmL_length rfl (by kernel_rfl) (by kernel_rfl) ?_
   intro LB101 LD101 hLB101 hLD101
   refine cwp_tmcut (fun tm => tm 2 = .ptr 44 0 ∧ tm 3 = .ptr 57 0 ∧ tm 6 = .agg ([.lit (.int .i64 c40_8)] ++ [.lit (.int .i64 (c72_13 + 1))]) ∧ True) (by refine ⟨?_, ?_, ?_, trivial⟩ <;> (simp only [round_tm, round_tm0, Tryz.ntmps127, e89, e90, e91, e92, e93, e94, e95, nm, seval] <;> first | rfl | trivial)) ?_
   rintro tm ⟨e102, e103, e104, _⟩
   have b105 := And.intro d27 (And.intro d35 (And.intro g41 (And.intro n61 (And.intro d70 (And.intro w71 (And.intro g73 (And.intro n96 (And.intro n97 (And.intro H74 (And.intro H75 (And.intro H76 (And.intro H77 (And.intro H78 (And.intro H79 (And.intro H80 (And.intro H81 (And.intro H82 (And.intro H83 (And.intro H84 (And.intro H85 (And.intro H86 (And.intro H87 (And.intro H88 (And.intro d99 w100))))))))))))))))))))))))
   try simp only [vz, tyf, b105, (ix24 o37), e102, e103, e104, nm, seval]
   rw [rndAs_normal (by simp only [updH_apply, without_apply, b105, nm, seval] <;> rfl)]
   try simp only [vz, tyf, b105, (ix24 o37), e102, e103, e104, nm, seval]
   refine kopen ?_
   rw [openK_eq]
   refine VOpen.run mixed Tryz.call65 Tryz.func65 rfl (by simp [Tryz.ntmps65]; kernel_rfl) ?_
   rcases o107 : (g_sight_isSurelyRead x0_s x36 (GSightPlace.mk c40_8 (c72_13 + 1))) with _ | r106
   ·simp only [o107, hs] at h
    exact absurd h kN72
   simp only [o107, hs] at h
   simp only [vz, tyf, b105, (ix24 o37), nm, seval]
   refine ktree (args0 := [.agg (cGSightStreet x0_s), .agg (cGSightBoard x36), .agg (cGSightPlace (GSightPlace.mk c40_8 (c72_13 + 1)))]) (by first | (simp only [nrm, tynrm] <;> rfl) | rfl) (by simp only [tre, tytre, Bool.and_self]) (g_sight_isSurelyRead_ok _ _ _ _ o107) ?_
   refine fin_cut (fun tm => tm 8 = .lit (.bool r106) ∧ True) (by refine ⟨?_, trivial⟩ <;> first | (simp only [ua, b105, nm, seval] <;> rfl) | rfl) ?_
   rintro tm ⟨e108, _⟩
   try simp only [vz, tyf, b105, (ix24 o37), e108, nm, seval]
   refine opd_ret (x := (.lit (.bool r106))) (by first | (simp only [Tryz.results65, resV, resL, resV1, tgt_ptr, tgt_tp, uw, cr, tyf, b105, (ix24 o37), nm, seval] <;> rfl) | rfl) ?_
   cases d109 : (r106)
   ·simp only [d109, hs] at h
    try simp only [vz, tyf, b105, (ix24 o37), e102, e103, e104, d109, nm, seval]
    rw [rnd_normal (by simp only [updH_apply, without_apply, b105, nm, seval] <;> rfl)]
    simp only [vz, tyf, b105, (ix24 o37), d109, e89, e90, e91, e92, e93, e94, e95, nm, seval]
    exact ⟨p72, Nat.lt_succ_self _, by rw [hI72]; refine ⟨p72, c72_13 + 1, c72_o0, c72_o1, c72_o2, rfl, cnt_lo hi72, cnt_next hp72, rfl, (show nx40 + 6 ≤ nx72 + 30 by omega), ?_, ?_, ?_, ?_, ?_, ?_, ?_, ?_, ?_, ?_, ?_, ?_, ?_, ?_, ?_, e89, e90, e91, e92, e93, e94, ?_, h⟩ <;> first | (simp only [ua, b105, d109, e89, e90, e91, e92, e93, e94, e95, nm, seval] <;> rfl) | rfl⟩
   simp only [d109, hs] at h
   try simp only [vz, tyf, b105, (ix24 o37), e102, e103, e104, d109, rg, nm, seval]
   refine yield_open mixed (psl := [10]) hLO38 (by simp only [updH_apply, without_apply, b105, nm, seval] <;> rfl) tmL_length rfl (by kernel_rfl) (by kernel_rfl) ?_
   intro LB110 LD110 hLB110 hLD110
   refine cwp_tmcut (fun tm => tm 3 = .ptr 48 0 ∧ tm 6 = .ptr 51 0 ∧ tm 7 = .ptr 52 0 ∧ tm 10 = .agg ([.lit (.int .i64 c40_8)] ++ [.lit (.int .i64 (c72_13 + 1))]) ∧ True) (by refine ⟨?_, ?_, ?_, ?_, trivial⟩ <;> (simp only [round_tm, round_tm0, Tryz.ntmps63, e102, e103, e104, nm, seval] <;> first | rfl | trivial)) ?_
   rintro tm ⟨e111, e112, e113, e114, _⟩
   try simp only [vz, tyf, b105, (ix24 o37), d109, e111, e112, e113, e114, nm, seval]
   rw [rndAs_normal (by simp only [updH_apply, without_apply, b105, nm, seval] <;> rfl)]
   cases d115 : (c72_o2)
   ·simp only [d115, hs] at h
    try simp only [vz, tyf, b105, (ix24 o37), d109, e111, e112, e113, e114, d115, nm, seval]
    rw [rnd_normal (by simp only [updH_apply, without_apply, b105, nm, seval] <;> rfl)]
    try simp only [vz, tyf, b105, (ix24 o37), d109, d115, e102, e103, e104, nm, seval]
    rw [rnd_normal (by simp only [updH_apply, without_apply, b105, nm, seval] <;> rfl)]
    simp only [vz, tyf, b105, (ix24 o37), d109, d115, e89, e90, e91, e92, e93, e94, e95, nm, seval]
    exact ⟨p72, Nat.lt_succ_self _, by rw [hI72]; refine ⟨p72, c72_13 + 1, c40_8, c72_13 + 1, true, rfl, cnt_lo hi72, cnt_next hp72, rfl, (show nx40 + 6 ≤ nx72 + 43 by omega), ?_, ?_, ?_, ?_, ?_, ?_, ?_, ?_, ?_, ?_, ?_, ?_, ?_, ?_, ?_, e89, e90, e91, e92, e93, e94, ?_, h⟩ <;> first | (simp only [ua, b105, d109, d115, e89, e90, e91, e92, e93, e94, e95, nm, seval] <;> rfl) | rfl⟩
   simp only [d115, hs] at h
   try simp only [vz, tyf, b105, (ix24 o37), d109, e111, e112, e113, e114, d115, nm, seval]
   refine kopen ?_
   rw [openK_eq]
   refine VOpen.run mixed Tryz.call60 Tryz.func60 rfl (by simp [Tryz.ntmps60]; kernel_rfl) ?_
   simp only [vz, tyf, b105, (ix24 o37), d109, d115, nm, seval]
   refine cwp_drwQF (fun tm => tm 2 = .ptr 0 0 ∧ tm 3 = .ptr 17 0 ∧ tm 4 = .ptr (nx72 + 38) 0 ∧ tm 5 = .ptr (nx72 + 39) 0 ∧ True) (by refine ⟨?_, ?_, ?_, ?_, trivial⟩ <;> first | (simp only [ua, b105, d109, d115, nm, seval] <;> rfl) | rfl) ?_
   rintro tm ⟨e116, e117, e118, e119, _⟩
   rcases o121 : (g_sight_atWorst x0_s x36 (GSightPlace.mk c40_8 (c72_13 + 1))) with _ | r120
   ·simp only [o121, hs] at h
    exact absurd h kN72
   simp only [o121, hs] at h
   simp only [vz, tyf, b105, (ix24 o37), d109, d115, e116, e117, e118, e119, nm, seval]
   refine dktree (args0 := [.agg (cGSightStreet x0_s), .agg (cGSightBoard x36), .agg (cGSightPlace (GSightPlace.mk c40_8 (c72_13 + 1)))]) (by first | (simp only [nrm, tynrm] <;> rfl) | rfl) (by simp only [tre, tytre, Bool.and_self]) (g_sight_atWorst_ok _ _ _ _ o121) ?_
   refine fin_cut (fun tm => tm 2 = .ptr 0 0 ∧ tm 3 = .ptr 17 0 ∧ tm 5 = .ptr (nx72 + 39) 0 ∧ tm 10 = .agg (cGsightview r120) ∧ True) (by refine ⟨e116, e117, e119, ?_, trivial⟩ <;> first | (simp only [ua, b105, d109, d115, e116, e117, e118, e119, nm, seval] <;> rfl) | rfl) ?_
   rintro tm ⟨e122, e123, e124, e125, _⟩
   rcases o127 : (g_sight_view_far r120) with _ | r126
   ·simp only [o127, hs] at h
    exact absurd h kN72
   simp only [o127, hs] at h
   simp only [vz, tyf, b105, (ix24 o37), d109, d115, e122, e123, e124, e125, nm, seval]
   refine dktree (args0 := [.agg (cGsightview r120)]) (by first | (simp only [nrm, tynrm] <;> rfl) | rfl) (by simp only [tre, tytre, Bool.and_self]) (g_sight_view_far_ok _ _ o127) ?_
   refine fin_cut (fun tm => tm 2 = .ptr 0 0 ∧ tm 3 = .ptr 17 0 ∧ tm 5 = .ptr (nx72 + 39) 0 ∧ tm 11 = .lit (.int .i64 r126) ∧ True) (by refine ⟨e122, e123, e124, ?_, trivial⟩ <;> first | (simp only [ua, b105, d109, d115, e122, e123, e124, e125, nm, seval] <;> rfl) | rfl) ?_
   rintro tm ⟨e128, e129, e130, e131, _⟩
   rcases o133 : (g_sight_atWorst x0_s x36 (GSightPlace.mk c72_o0 c72_o1)) with _ | r132
   ·simp only [o133, hs] at h
    exact absurd h kN72
   simp only [o133, hs] at h
   simp only [vz, tyf, b105, (ix24 o37), d109, d115, e128, e129, e130, e131, nm, seval]
   refine dktree (args0 := [.agg (cGSightStreet x0_s), .agg (cGSightBoard x36), .agg (cGSightPlace (GSightPlace.mk c72_o0 c72_o1))]) (by first | (simp only [nrm, tynrm] <;> rfl) | rfl) (by simp only [tre, tytre, Bool.and_self]) (g_sight_atWorst_ok _ _ _ _ o133) ?_
   refine fin_cut (fun tm => tm 11 = .lit (.int .i64 r126) ∧ tm 15 = .agg (cGsightview r132) ∧ True) (by refine ⟨e131, ?_, trivial⟩ <;> first | (simp only [ua, b105, d109, d115, e128, e129, e130, e131, nm, seval] <;> rfl) | rfl) ?_
   rintro tm ⟨e134, e135, _⟩
   rcases o137 : (g_sight_view_far r132) with _ | r136
   ·simp only [o137, hs] at h
    exact absurd h kN72
   simp only [o137, hs] at h
   simp only [vz, tyf, b105, (ix24 o37), d109, d115, e134, e135, nm, seval]
   refine dktree (args0 := [.agg (cGsightview r132)]) (by first | (simp only [nrm, tynrm] <;> rfl) | rfl) (by simp only [tre, tytre, Bool.and_self]) (g_sight_view_far_ok _ _ o137) ?_
   refine fin_cut (fun tm => tm 11 = .lit (.int .i64 r126) ∧ tm 16 = .lit (.int .i64 r136) ∧ True) (by refine ⟨e134, ?_, trivial⟩ <;> first | (simp only [ua, b105, d109, d115, e134, e135, nm, seval] <;> rfl) | rfl) ?_
   rintro tm ⟨e138, e139, _⟩
   try simp only [vz, tyf, b105, (ix24 o37), d109, d115, e138, e139, nm, seval]
   refine opd_ret (x := (.lit (.bool (decide (r126 > r136))))) (by first | (simp only [Tryz.results60, resV, resL, resV1, tgt_ptr, tgt_tp, uw, cr, tyf, b105, (ix24 o37), d109, d115, nm, seval] <;> rfl) | rfl) ?_
   cases d140 : (decide (r126 > r136))
   ·simp only [d140, hs] at h
    try simp only [vz, tyf, b105, (ix24 o37), d109, d115, e111, e112, e113, e114, d140, nm, seval]
    rw [rnd_normal (by simp only [updH_apply, without_apply, b105, nm, seval] <;> rfl)]
    try simp only [vz, tyf, b105, (ix24 o37), d109, d115, d140, e102, e103, e104, nm, seval]
    rw [rnd_normal (by simp only [updH_apply, without_apply, b105, nm, seval] <;> rfl)]
    simp only [vz, tyf, b105, (ix24 o37), d109, d115, d140, e89, e90, e91, e92, e93, e94, e95, nm, seval]
    exact ⟨p72, Nat.lt_succ_self _, by rw [hI72]; refine ⟨p72, c72_13 + 1, c72_o0, c72_o1, true, rfl, cnt_lo hi72, cnt_next hp72, rfl, (show nx40 + 6 ≤ nx72 + 55 by omega), ?_, ?_, ?_, ?_, ?_, ?_, ?_, ?_, ?_, ?_, ?_, ?_, ?_, ?_, ?_, e89, e90, e91, e92, e93, e94, ?_, h⟩ <;> first | (simp only [ua, b105, d109, d115, d140, e89, e90, e91, e92, e93, e94, e95, nm, seval] <;> rfl) | rfl⟩
   simp only [d140, hs] at h
   try simp only [vz, tyf, b105, (ix24 o37), d109, d115, e111, e112, e113, e114, d140, nm, seval]
   rw [rnd_normal (by simp only [updH_apply, without_apply, b105, nm, seval] <;> rfl)]
   try simp only [vz, tyf, b105, (ix24 o37), d109, d115, d140, e102, e103, e104, nm, seval]
   rw [rnd_normal (by simp only [updH_apply, without_apply, b105, nm, seval] <;> rfl)]
   simp only [vz, tyf, b105, (ix24 o37), d109, d115, d140, e89, e90, e91, e92, e93, e94, e95, nm, seval]
   exact ⟨p72, Nat.lt_succ_self _, by rw [hI72]; refine ⟨p72, c72_13 + 1, c40_8, c72_13 + 1, true, rfl, cnt_lo hi72, cnt_next hp72, rfl, (show nx40 + 6 ≤ nx72 + 58 by omega), ?_, ?_, ?_, ?_, ?_, ?_, ?_, ?_, ?_, ?_, ?_, ?_, ?_, ?_, ?_, e89, e90, e91, e92, e93, e94, ?_, h⟩ <;> first | (simp only [ua, b105, d109, d115, d140, e89, e90, e91, e92, e93, e94, e95, nm, seval] <;> rfl) | rfl⟩
end Go.V
end
section
namespace Go.V
open Go Go.Proofs
end Go.V
end
section
namespace Go.V
open Go Go.Proofs
end Go.V
end
section
namespace Go.V
open Go Go.Proofs
end Go.V
end
section
namespace Go.V
open Go Go.Proofs
end Go.V
end
section
namespace Go.V
open Go
def rowP (a : Int) : Nat → Int → List GSightPlace
 | 0, _ => []
 | k + 1, c => ⟨a, c + 1⟩ :: rowP a k (c + 1)
def gridP (w : Nat) : Nat → Int → List GSightPlace
 | 0, _ => []
 | k + 1, c => rowP c w 0 ++ gridP w k (c + 1)
theorem mem_rowP {a : Int} {p : GSightPlace} : ∀ (k : Nat) (c : Int), p ∈ rowP a k c → p.Along = a ∧ c + 1 ≤ p.Across ∧ p.Across ≤ c + k
 | 0, c, h => by cases h
 | k + 1, c, h => by
  rcases List.mem_cons.1 h with rfl | h
  ·exact ⟨rfl, by show c + 1 ≤ c + 1; omega, by show c + 1 ≤ c + ((k + 1 : Nat) : Int); omega⟩
  ·have := mem_rowP k (c + 1) h; exact ⟨this.1, by omega, by omega⟩
theorem mem_gridP {w : Nat} {p : GSightPlace} : ∀ (k : Nat) (c : Int), p ∈ gridP w k c → (c ≤ p.Along ∧ p.Along < c + k) ∧ 1 ≤ p.Across ∧ p.Across ≤ w
 | 0, c, h => by cases h
 | k + 1, c, h => by
  rcases List.mem_append.1 h with h | h
  ·have := mem_rowP _ _ h; exact ⟨⟨by omega, by omega⟩, by omega, by omega⟩
  ·have := mem_gridP k (c + 1) h; exact ⟨⟨by omega, by omega⟩, by omega, by omega⟩
theorem rowP_len {a : Int} : ∀ (k : Nat) (c : Int), (rowP a k c).length = k
 | 0, c => rfl
 | k + 1, c => by simp [rowP, rowP_len k]
def InvM (f : GSightPlace → Int) (l : List (GSightPlace × Int)) : Prop := ∀ e ∈ l, e.2 = f e.1
def HasK (l : List (GSightPlace × Int)) (k : GSightPlace) : Prop := ∃ e ∈ l, e.1 = k
theorem q34_self (k : GSightPlace) : q34 k k = true := by simp [q34]
theorem kIdx_no {k : GSightPlace} : ∀ (es : List GSightPlace) (i : Nat), kIdx q34 k es i = none → k ∉ es
 | [], i, h => by simp
 | e :: es, i, h => by
  unfold kIdx at h
  cases hq : q34 k e with
  | true => rw [hq] at h; cases h
  | false =>
   rw [hq] at h
   have := kIdx_no es (i + 1) h
   intro hm
   rcases List.mem_cons.1 hm with rfl | hm
   ·rw [q34_self] at hq; cases hq
   ·exact this hm
theorem kIdx_at {k : GSightPlace} {l : List (GSightPlace × Int)} {i : Nat} (h : kIdx q34 k (l.map (·.1)) 0 = some i) : ∃ v, l[i]? = some (k, v) := by
 obtain ⟨_, e, h1, h2⟩ := kIdx_some _ _ _ h
 rw [Nat.sub_zero, List.getElem?_map] at h1
 cases hl : l[i]? with
 | none => rw [hl] at h1; cases h1
 | some p =>
  rw [hl] at h1
  simp only [Option.map_some, Option.some.injEq] at h1
  have := hq34 _ _ h2
  exact ⟨p.2, by rw [this, ← h1]⟩
theorem get_of {f : GSightPlace → Int} {l : List (GSightPlace × Int)} {k : GSightPlace} (h : InvM f l) (hk : HasK l k) : mapGet q34 0 l k = f k := by
 unfold mapGet
 cases hi : kIdx q34 k (l.map (·.1)) 0 with
 | none =>
  obtain ⟨e, he, rfl⟩ := hk
  exact absurd (List.mem_map.2 ⟨e, he, rfl⟩) (kIdx_no _ _ hi)
 | some i =>
  obtain ⟨v, hv⟩ := kIdx_at hi
  simp only [hv]
  exact h _ (List.mem_of_getElem? hv)
theorem set_of {f : GSightPlace → Int} {l : List (GSightPlace × Int)} {k : GSightPlace} (h : InvM f l) : InvM f (mapSet q34 l k (f k)) ∧ HasK (mapSet q34 l k (f k)) k ∧ ∀ k', HasK l k' → HasK (mapSet q34 l k (f k)) k' := by
 unfold mapSet
 cases hi : kIdx q34 k (l.map (·.1)) 0 with
 | none =>
  refine ⟨fun e he => ?_, ⟨_, List.mem_append.2 (.inr (List.mem_singleton.2 rfl)), rfl⟩, fun k' ⟨e, he, hk⟩ => ⟨e, List.mem_append.2 (.inl he), hk⟩⟩
  rcases List.mem_append.1 he with he | he
  ·exact h e he
  ·rw [List.mem_singleton.1 he]
 | some i =>
  obtain ⟨v, hv⟩ := kIdx_at hi
  have hvf : v = f k := h _ (List.mem_of_getElem? hv)
  have hs : l.set i (k, f k) = l := by
   rw [← hvf]
   obtain ⟨hlt, he⟩ := List.getElem?_eq_some_iff.1 hv
   rw [← he, List.set_getElem_self]
  simp only [hs]
  exact ⟨h, ⟨_, List.mem_of_getElem? hv, rfl⟩, fun k' hk => hk⟩
theorem fold_of {f : GSightPlace → Int} : ∀ (L : List GSightPlace) (l : List (GSightPlace × Int)), InvM f l → InvM f (L.foldl (fun m p => mapSet q34 m p (f p)) l) ∧ (∀ p ∈ L, HasK (L.foldl (fun m p => mapSet q34 m p (f p)) l) p) ∧ ∀ k', HasK l k' → HasK (L.foldl (fun m p => mapSet q34 m p (f p)) l) k'
 | [], l, h => ⟨h, fun p hp => (by cases hp), fun k' hk => hk⟩
 | p :: L, l, h => by
  obtain ⟨h1, h2, h3⟩ := set_of (k := p) h
  obtain ⟨g1, g2, g3⟩ := fold_of L _ h1
  refine ⟨g1, fun x hx => ?_, fun k' hk => g3 k' (h3 k' hk)⟩
  rcases List.mem_cons.1 hx with rfl | hx
  ·exact g3 _ h2
  ·exact g2 x hx
theorem bnd_small {n : Int} (h : n ≤ 1000) : boundOk n = true := by unfold boundOk; exact decide_eq_true (by omega)
section
variable {s : GSightStreet} {b : GSightBoard}
theorem rf_l1 (a : Int) : ∀ (k : Nat) (c : Int) (m : List (GSightPlace × Int)), (∀ p ∈ rowP a k c, Good s b p) → g_sight_readFrom_l1 s b a k c m = some (.go ((rowP a k c).foldl (fun m p => mapSet q34 m p (seenI s b p)) m))
 | 0, c, m, h => rfl
 | k + 1, c, m, h => by
  simp only [g_sight_readFrom_l1, seen_eq s b _ (h _ (List.mem_cons_self ..)), Option.bind_some, rowP, List.foldl_cons]
  exact rf_l1 a k (c + 1) _ (fun p hp => h p (List.mem_cons_of_mem _ hp))
theorem rf_l0 (hw : s.Width ≤ 12) : ∀ (k : Nat) (c : Int) (m : List (GSightPlace × Int)), (∀ p ∈ gridP s.Width.toNat k c, Good s b p) → g_sight_readFrom_l0 s b k c m = some (.go ((gridP s.Width.toNat k c).foldl (fun m p => mapSet q34 m p (seenI s b p)) m))
 | 0, c, m, h => rfl
 | k + 1, c, m, h => by
  simp only [g_sight_readFrom_l0, bnd_small (show s.Width ≤ 1000 by omega), cond_true, Int.sub_zero]
  rw [rf_l1 c s.Width.toNat 0 m (fun p hp => h p (List.mem_append.2 (.inl hp))), lbind_go, rf_l0 hw k (c + 1) _ (fun p hp => h p (List.mem_append.2 (.inr hp))), gridP, List.foldl_append]
theorem ct_l1 (r : List (GSightPlace × Int)) (f : GSightPlace → Int) (a : Int) : ∀ (k : Nat) (c o : Int), (∀ p ∈ rowP a k c, mapGet q34 0 r p = f p) → 0 ≤ o → o + k ≤ 1000 → g_sight_Many_l1 r a k c o = some (.go (o + ((rowP a k c).filter (fun p => f p == 3)).length))
 | 0, c, o, h, h0, h1 => by simp [g_sight_Many_l1, rowP]
 | k + 1, c, o, h, h0, h1 => by
  have ih := fun o' => ct_l1 r f a k (c + 1) o' (fun p hp => h p (List.mem_cons_of_mem _ hp))
  simp only [g_sight_Many_l1, h _ (List.mem_cons_self ..), rowP, List.filter_cons]
  cases f ⟨a, c + 1⟩ == 3 with
  | true =>
   simp only [cond_true, if_true, List.length_cons]
   rw [wrap_eq (by omega) (by omega), ih (o + 1) (by omega) (by omega)]
   congr 2; omega
  | false =>
   simp only [cond_false, Bool.false_eq_true, if_false]
   rw [ih o h0 (by omega)]
theorem ct_l3 (r : List (GSightPlace × Int)) (f : GSightPlace → Int) (a : Int) : ∀ (k : Nat) (c o : Int), (∀ p ∈ rowP a k c, mapGet q34 0 r p = f p) → 0 ≤ o → o + k ≤ 1000 → g_sight_Many_l3 r a k c o = some (.go (o + ((rowP a k c).filter (fun p => decide (f p ≥ 2))).length))
 | 0, c, o, h, h0, h1 => by simp [g_sight_Many_l3, rowP]
 | k + 1, c, o, h, h0, h1 => by
  have ih := fun o' => ct_l3 r f a k (c + 1) o' (fun p hp => h p (List.mem_cons_of_mem _ hp))
  simp only [g_sight_Many_l3, h _ (List.mem_cons_self ..), rowP, List.filter_cons]
  cases decide (f ⟨a, c + 1⟩ ≥ 2) with
  | true =>
   simp only [cond_true, if_true, List.length_cons]
   rw [wrap_eq (by omega) (by omega), ih (o + 1) (by omega) (by omega)]
   congr 2; omega
  | false =>
   simp only [cond_false, Bool.false_eq_true, if_false]
   rw [ih o h0 (by omega)]
theorem ct_l0 (hw : s.Width ≤ 12) (hw0 : 0 ≤ s.Width) (r : List (GSightPlace × Int)) (f : GSightPlace → Int) : ∀ (k : Nat) (c o : Int), (∀ p ∈ gridP s.Width.toNat k c, mapGet q34 0 r p = f p) → 0 ≤ o → o + k * 12 ≤ 1000 → g_sight_Many_l0 s r k c o = some (.go (o + ((gridP s.Width.toNat k c).filter (fun p => f p == 3)).length))
 | 0, c, o, h, h0, h1 => by simp [g_sight_Many_l0, gridP]
 | k + 1, c, o, h, h0, h1 => by
  have hl := List.length_filter_le (fun p => f p == 3) (rowP c s.Width.toNat 0)
  rw [rowP_len] at hl
  simp only [g_sight_Many_l0, bnd_small (show s.Width ≤ 1000 by omega), cond_true, Int.sub_zero]
  rw [ct_l1 r f c s.Width.toNat 0 o (fun p hp => h p (List.mem_append.2 (.inl hp))) h0 (by omega), lbind_go, ct_l0 hw hw0 r f k (c + 1) (o + ((rowP c s.Width.toNat 0).filter (fun p => f p == 3)).length) (fun p hp => h p (List.mem_append.2 (.inr hp))) (by omega) (by omega), gridP, List.filter_append, List.length_append]
  congr 2; omega
theorem ct_l2 (hw : s.Width ≤ 12) (hw0 : 0 ≤ s.Width) (r : List (GSightPlace × Int)) (f : GSightPlace → Int) : ∀ (k : Nat) (c o : Int), (∀ p ∈ gridP s.Width.toNat k c, mapGet q34 0 r p = f p) → 0 ≤ o → o + k * 12 ≤ 1000 → g_sight_Many_l2 s r k c o = some (.go (o + ((gridP s.Width.toNat k c).filter (fun p => decide (f p ≥ 2))).length))
 | 0, c, o, h, h0, h1 => by simp [g_sight_Many_l2, gridP]
 | k + 1, c, o, h, h0, h1 => by
  have hl := List.length_filter_le (fun p => decide (f p ≥ 2)) (rowP c s.Width.toNat 0)
  rw [rowP_len] at hl
  simp only [g_sight_Many_l2, bnd_small (show s.Width ≤ 1000 by omega), cond_true, Int.sub_zero]
  rw [ct_l3 r f c s.Width.toNat 0 o (fun p hp => h p (List.mem_append.2 (.inl hp))) h0 (by omega), lbind_go, ct_l2 hw hw0 r f k (c + 1) (o + ((rowP c s.Width.toNat 0).filter (fun p => decide (f p ≥ 2))).length) (fun p hp => h p (List.mem_append.2 (.inr hp))) (by omega) (by omega), gridP, List.filter_append, List.length_append]
  congr 2; omega
def allP (s : GSightStreet) : List GSightPlace := gridP s.Width.toNat (s.Length + 1).toNat 0
def mxP (a : Int) (q p : GSightPlace) : GSightPlace := cond (decide (farI a p > farI a q)) p q
def stP (s : GSightStreet) (b : GSightBoard) (o : Option GSightPlace) (p : GSightPlace) : Option GSightPlace := cond (sureB s b p) (match o with | none => some p | some q => some (mxP b.At q p)) o
def encO : Option GSightPlace → Int × Int × Bool
 | none => (0, 0, false)
 | some p => (p.Along, p.Across, true)
theorem st_some : ∀ (L : List GSightPlace) (q : GSightPlace), L.foldl (stP s b) (some q) = some ((L.filter (sureB s b)).foldl (mxP b.At) q)
 | [], q => rfl
 | p :: L, q => by
  simp only [List.foldl_cons, List.filter_cons, stP]
  cases sureB s b p with
  | true => simp only [cond_true, if_true, List.foldl_cons]; exact st_some L _
  | false => simp only [cond_false, Bool.false_eq_true, if_false]; exact st_some L _
theorem st_none : ∀ (L : List GSightPlace), L.foldl (stP s b) none = match L.filter (sureB s b) with | [] => none | x :: t => some ((x :: t).foldl (mxP b.At) x)
 | [] => rfl
 | p :: L => by
  simp only [List.foldl_cons, List.filter_cons, stP]
  cases sureB s b p with
  | true =>
   simp only [cond_true, if_true, List.foldl_cons]
   rw [st_some]
   have : mxP b.At p p = p := by unfold mxP; rw [decide_eq_false (by omega)]; rfl
   rw [this]
  | false => simp only [cond_false, Bool.false_eq_true, if_false]; exact st_none L
theorem sf_l1 (a : Int) : ∀ (k : Nat) (c : Int) (o : Option GSightPlace), (∀ p ∈ rowP a k c, Good s b p) → (∀ q, o = some q → Good s b q) →
  g_sight_Farthest_l1 s b a k c (encO o).1 (encO o).2.1 (encO o).2.2 = some (.go (encO ((rowP a k c).foldl (stP s b) o))) ∧ ∀ q, (rowP a k c).foldl (stP s b) o = some q → Good s b q
 | 0, c, o, h, ho => ⟨rfl, ho⟩
 | k + 1, c, o, h, ho => by
  have hg := h _ (List.mem_cons_self ..)
  have ih := fun o' ho' => sf_l1 a k (c + 1) o' (fun p hp => h p (List.mem_cons_of_mem _ hp)) ho'
  simp only [g_sight_Farthest_l1, surely_eq (fair_good hg), Option.bind_some, rowP, List.foldl_cons]
  cases hS : sureB s b ⟨a, c + 1⟩ with
  | false =>
   have e : stP s b o ⟨a, c + 1⟩ = o := by unfold stP; rw [hS]; rfl
   rw [e]
   exact ih o ho
  | true =>
   cases o with
   | none =>
    have e : stP s b none ⟨a, c + 1⟩ = some ⟨a, c + 1⟩ := by unfold stP; rw [hS]; rfl
    rw [e]
    exact ih (some ⟨a, c + 1⟩) (fun q hq => by cases hq; exact hg)
   | some q =>
    have e : stP s b (some q) ⟨a, c + 1⟩ = some (mxP b.At q ⟨a, c + 1⟩) := by unfold stP; rw [hS]; rfl
    have gq := ho q rfl
    obtain ⟨hp, w1, _⟩ := fair_good hg
    obtain ⟨hq, _⟩ := fair_good gq
    have f1 := far_eq ⟨s, ⟨a, c + 1⟩, b, s.Eye.Low * s.Light.Low⟩ hp
    have f2 := far_eq ⟨s, ⟨q.Along, q.Across⟩, b, s.Eye.Low * s.Light.Low⟩ hq
    rw [e]
    simp only [encO, cond_true, g_sight_atWorst, pw_wrap w1, Option.bind_some, f1, f2]
    unfold mxP
    cases hd : decide (farI b.At ⟨a, c + 1⟩ > farI b.At q) with
    | true =>
     have hd' : decide (farI b.At ⟨a, c + 1⟩ > farI b.At ⟨q.Along, q.Across⟩) = true := hd
     simp only [hd', cond_true]
     exact ih (some ⟨a, c + 1⟩) (fun q hq => by cases hq; exact hg)
    | false =>
     have hd' : decide (farI b.At ⟨a, c + 1⟩ > farI b.At ⟨q.Along, q.Across⟩) = false := hd
     simp only [hd', cond_false]
     exact ih (some q) ho
theorem sf_l0 (hw : s.Width ≤ 12) : ∀ (k : Nat) (c : Int) (o : Option GSightPlace), (∀ p ∈ gridP s.Width.toNat k c, Good s b p) → (∀ q, o = some q → Good s b q) →
  g_sight_Farthest_l0 s b k c (encO o).1 (encO o).2.1 (encO o).2.2 = some (.go (encO ((gridP s.Width.toNat k c).foldl (stP s b) o)))
 | 0, c, o, h, ho => rfl
 | k + 1, c, o, h, ho => by
  obtain ⟨h1, h2⟩ := sf_l1 c s.Width.toNat 0 o (fun p hp => h p (List.mem_append.2 (.inl hp))) ho
  simp only [g_sight_Farthest_l0, bnd_small (show s.Width ≤ 1000 by omega), cond_true, Int.sub_zero]
  rw [h1, lbind_go]
  rw [sf_l0 hw k (c + 1) _ (fun p hp => h p (List.mem_append.2 (.inr hp))) h2, gridP, List.foldl_append]
theorem all_good {n : Int} (h1 : streetB s = true) (h2 : numB s n = true) : ∃ b, getI s.Boards n = some b ∧ (1 ≤ s.Length ∧ s.Length ≤ 40) ∧ (1 ≤ s.Width ∧ s.Width ≤ 12) ∧ ∀ p ∈ allP s, Good s b p := by
 have hs := h1
 simp only [streetB, Bool.and_eq_true, inB_iff] at hs
 obtain ⟨hl, hw, _⟩ := hs
 have h3 : placeB s ⟨0, 1⟩ = true := by simp only [placeB, Bool.and_eq_true, inB_iff]; omega
 obtain ⟨b, b1, _, _⟩ := good_of h1 h2 h3
 refine ⟨b, b1, hl, hw, fun p hp => ?_⟩
 have := mem_gridP _ _ hp
 have h4 : placeB s p = true := by simp only [placeB, Bool.and_eq_true, inB_iff]; omega
 obtain ⟨b', b2, _, b3⟩ := good_of h1 h2 h4
 rw [b1] at b2
 cases b2
 exact b3
theorem readFrom_eq (hl : 1 ≤ s.Length ∧ s.Length ≤ 40) (hw : 1 ≤ s.Width ∧ s.Width ≤ 12) (h : ∀ p ∈ allP s, Good s b p) : ∃ r, g_sight_readFrom s b = some r ∧ ∀ p ∈ allP s, mapGet q34 0 r p = seenI s b p := by
 have hf := fold_of (f := seenI s b) (allP s) [] (fun e he => by cases he)
 refine ⟨_, ?_, fun p hp => get_of hf.1 (hf.2.1 p hp)⟩
 simp only [g_sight_readFrom, wrap_eq (show -9223372036854775808 ≤ s.Length + 1 by omega) (by omega), bnd_small (show s.Length + 1 ≤ 1000 by omega), cond_true, Int.sub_zero]
 rw [rf_l0 hw.2 _ _ _ h, lbind_go]
 rfl
theorem Many_eq {n : Int} (h : FineS s) (h1 : streetB s = true) (h2 : numB s n = true) (hb : getI s.Boards n = some b) (hl : 1 ≤ s.Length ∧ s.Length ≤ 40) (hw : 1 ≤ s.Width ∧ s.Width ≤ 12) (hg : ∀ p ∈ allP s, Good s b p) :
  g_sight_Many s n = some ((((allP s).filter (fun p => seenI s b p == 3)).length : Int), (((allP s).filter (fun p => decide (seenI s b p ≥ 2))).length : Int), 0) := by
 obtain ⟨r, hr, hm⟩ := readFrom_eq hl hw hg
 have h2' := h2
 simp only [numB] at h2'
 simp only [g_sight_Many, isStreet_eq s h, isBoard_eq, h1, h2', Option.bind_some, cond_true, hb, hr, wrap_eq (show -9223372036854775808 ≤ s.Length + 1 by omega) (by omega), bnd_small (show s.Length + 1 ≤ 1000 by omega), Int.sub_zero]
 rw [ct_l0 hw.2 (by omega) r (seenI s b) _ _ _ hm (Int.le_refl 0) (by omega), lbind_go, ct_l2 hw.2 (by omega) r (seenI s b) _ _ _ hm (Int.le_refl 0) (by omega), lbind_go, Int.zero_add, Int.zero_add]
 rfl
theorem Farthest_eq {n : Int} (h : FineS s) (h1 : streetB s = true) (h2 : numB s n = true) (hb : getI s.Boards n = some b) (hl : 1 ≤ s.Length ∧ s.Length ≤ 40) (hw : 1 ≤ s.Width ∧ s.Width ≤ 12) (hg : ∀ p ∈ allP s, Good s b p) :
  g_sight_Farthest s n = some (match (allP s).filter (sureB s b) with | [] => (⟨0, 0⟩, 5) | x :: t => ((x :: t).foldl (mxP b.At) x, 0)) := by
 have h2' := h2
 simp only [numB] at h2'
 have hf := sf_l0 hw.2 (s.Length + 1).toNat 0 none hg (fun q hq => by cases hq)
 simp only [encO] at hf
 simp only [g_sight_Farthest, isStreet_eq s h, isBoard_eq, h1, h2', Option.bind_some, cond_true, hb, wrap_eq (show -9223372036854775808 ≤ s.Length + 1 by omega) (by omega), bnd_small (show s.Length + 1 ≤ 1000 by omega), Int.sub_zero]
 rw [hf, lbind_go]
 have e := st_none (s := s) (b := b) (allP s)
 unfold allP at e
 rw [e]
 unfold allP
 cases List.filter (sureB s b) (gridP s.Width.toNat (s.Length + 1).toNat 0) with
 | nil => rfl
 | cons x t => rfl
theorem seen3 (p : GSightPlace) : (seenI s b p == 3) = sureB s b p := by
 unfold seenI
 cases sureB s b p <;> cases mayB s b p <;> rfl
theorem seen2 (p : GSightPlace) : decide (seenI s b p ≥ 2) = (seenI s b p != 1) := by
 unfold seenI
 cases sureB s b p <;> cases mayB s b p <;> rfl
end
end Go.V
end
section
set_option linter.unusedVariables false
set_option linter.unusedSimpArgs false
namespace Go.V
open Go
section
variable {P : Program} {G : Glob} {f : FuncId} {β γ w c nx : Nat} {tm : Nat → VV} {H : Nat → Option VObj} {df : List VDef} {d : Option Tmp} {K : List Nat → List Nat → St → Prop} {el : Option TypeId} {α : Type} {enc : α → List VV} {xs ys : List α} {x : VV}
end
section
variable {P : Program} {G : Glob} {β γ w e : Nat} {t ty : TypeId} {tm : Nat → VV} {H : Nat → Option VObj} {d : Option Tmp} {k : VV → VEff → Prop} {el : Option TypeId} {α : Type} {enc : α → List VV} {xs ys : List α} {pos : String} {af : Array Edge} {g : Option (Nat × Bool)} {x : Operand} {lo hi : Option Operand}
end
section
variable {P : Program} {G : Glob} {f : FuncId} {γ nx : Nat} {tm : Nat → VV} {H : Nat → Option VObj} {df : List VDef} {d : Option Tmp} {x : VV}
theorem ktree0 {K : St → Prop} {Qp : VV → St → Prop} (hp : VPure P G f [] (.tree x)) (h : fin d γ tm H nx df K x .none) : callK P G f [] ⟨tm, H, nx, df⟩ d γ K Qp := ktree (args0 := []) rfl rfl hp h
end
end Go.V
end
section
namespace Go.V
open Go Go.Proofs
theorem hmix : Tryz.prog.follows .mixedOrders = true := by kernel_rfl
def kS : VV := (Go.V.VV.agg [(Go.V.VV.lit (Go.Value.int Go.IntKind.i64 (Int.ofNat 20))), (Go.V.VV.lit (Go.Value.int Go.IntKind.i64 (Int.ofNat 6))), (Go.V.VV.lit (Go.Value.int Go.IntKind.i64 (Int.ofNat 4))), (Go.V.VV.lit (Go.Value.int Go.IntKind.i64 (Int.ofNat 6))), (Go.V.VV.lit (Go.Value.int Go.IntKind.i64 (Int.ofNat 50))), (Go.V.VV.lit (Go.Value.int Go.IntKind.i64 (Int.ofNat 100))), (Go.V.VV.sl [(Go.V.VV.lit (Go.Value.int Go.IntKind.i64 (Int.ofNat 10))), (Go.V.VV.sl [(Go.V.VV.lit (Go.Value.int Go.IntKind.i64 (Int.ofNat 6))), (Go.V.VV.lit (Go.Value.int Go.IntKind.i64 (Int.ofNat 4))), (Go.V.VV.lit (Go.Value.int Go.IntKind.i64 (Int.ofNat 1))), (Go.V.VV.lit (Go.Value.int Go.IntKind.i64 (Int.ofNat 1))), (Go.V.VV.lit (Go.Value.int Go.IntKind.i64 (Int.ofNat 8))), (Go.V.VV.lit (Go.Value.int Go.IntKind.i64 (Int.ofNat 5))), (Go.V.VV.lit (Go.Value.int Go.IntKind.i64 (Int.ofNat 2))), (Go.V.VV.lit (Go.Value.int Go.IntKind.i64 (Int.ofNat 0)))] 2 Bool.false), (Go.V.VV.lit (Go.Value.int Go.IntKind.i64 (Int.ofNat 0))), (Go.V.VV.sl [(Go.V.VV.lit (Go.Value.int Go.IntKind.i64 (Int.ofNat 10))), (Go.V.VV.lit (Go.Value.int Go.IntKind.i64 (Int.ofNat 10))), (Go.V.VV.lit (Go.Value.int Go.IntKind.i64 (Int.ofNat 2))), (Go.V.VV.lit (Go.Value.int Go.IntKind.i64 (Int.ofNat 0)))] 1 Bool.false)] 2 Bool.false), (Go.V.VV.sl [(Go.V.VV.lit (Go.Value.int Go.IntKind.i64 (Int.ofNat 12))), (Go.V.VV.lit (Go.Value.int Go.IntKind.i64 (Int.ofNat 13))), (Go.V.VV.lit (Go.Value.int Go.IntKind.i64 (Int.ofNat 2))), (Go.V.VV.lit (Go.Value.int Go.IntKind.i64 (Int.ofNat 3))), (Go.V.VV.lit (Go.Value.bool Bool.true)), (Go.V.VV.lit (Go.Value.int Go.IntKind.i64 (Int.ofNat 5))), (Go.V.VV.lit (Go.Value.int Go.IntKind.i64 (Int.ofNat 6))), (Go.V.VV.lit (Go.Value.int Go.IntKind.i64 (Int.ofNat 4))), (Go.V.VV.lit (Go.Value.int Go.IntKind.i64 (Int.ofNat 5))), (Go.V.VV.lit (Go.Value.bool Bool.false))] 2 Bool.false)])
def kT : VV := (Go.V.VV.agg [(Go.V.VV.lit (Go.Value.int Go.IntKind.i64 (Int.ofNat 4))), (Go.V.VV.lit (Go.Value.int Go.IntKind.i64 (Int.ofNat 2))), (Go.V.VV.lit (Go.Value.int Go.IntKind.i64 (Int.ofNat 1))), (Go.V.VV.lit (Go.Value.int Go.IntKind.i64 (Int.ofNat 1))), (Go.V.VV.lit (Go.Value.int Go.IntKind.i64 (Int.ofNat 100))), (Go.V.VV.lit (Go.Value.int Go.IntKind.i64 (Int.ofNat 100))), (Go.V.VV.sl [(Go.V.VV.lit (Go.Value.int Go.IntKind.i64 (Int.ofNat 0))), (Go.V.VV.sl [(Go.V.VV.lit (Go.Value.int Go.IntKind.i64 (Int.ofNat 3))), (Go.V.VV.lit (Go.Value.int Go.IntKind.i64 (Int.ofNat 2))), (Go.V.VV.lit (Go.Value.int Go.IntKind.i64 (Int.ofNat 1))), (Go.V.VV.lit (Go.Value.int Go.IntKind.i64 (Int.ofNat 0)))] 1 Bool.false)] 1 Bool.false), (Go.V.VV.lit (Go.Value.slice Option.none 0 0))])
def kAt46 : VV := (Go.V.VV.agg [(Go.V.VV.lit (Go.Value.int Go.IntKind.i64 (Int.ofNat 4))), (Go.V.VV.lit (Go.Value.int Go.IntKind.i64 (Int.ofNat 6)))])
def kAt41 : VV := (Go.V.VV.agg [(Go.V.VV.lit (Go.Value.int Go.IntKind.i64 (Int.ofNat 4))), (Go.V.VV.lit (Go.Value.int Go.IntKind.i64 (Int.ofNat 1)))])
def kAt201 : VV := (Go.V.VV.agg [(Go.V.VV.lit (Go.Value.int Go.IntKind.i64 (Int.ofNat 20))), (Go.V.VV.lit (Go.Value.int Go.IntKind.i64 (Int.ofNat 1)))])
def kAt166 : VV := (Go.V.VV.agg [(Go.V.VV.lit (Go.Value.int Go.IntKind.i64 (Int.ofNat 16))), (Go.V.VV.lit (Go.Value.int Go.IntKind.i64 (Int.ofNat 6)))])
def kAt106 : VV := (Go.V.VV.agg [(Go.V.VV.lit (Go.Value.int Go.IntKind.i64 (Int.ofNat 10))), (Go.V.VV.lit (Go.Value.int Go.IntKind.i64 (Int.ofNat 6)))])
def kSeen : VV := (Go.V.VV.tup [(Go.V.VV.lit (Go.Value.int Go.IntKind.i64 (Int.ofNat 2))), (Go.V.VV.lit (Go.Value.int Go.IntKind.i64 (Int.ofNat 0)))])
def kWhy : VV := (Go.V.VV.tup [(Go.V.VV.agg [(Go.V.VV.lit (Go.Value.int Go.IntKind.i64 (Int.ofNat 3))), (Go.V.VV.lit (Go.Value.int Go.IntKind.i64 (Int.ofNat 0)))]), (Go.V.VV.lit (Go.Value.int Go.IntKind.i64 (Int.ofNat 0)))])
def kLetters : VV := (Go.V.VV.tup [(Go.V.VV.sl [(Go.V.VV.lit (Go.Value.int Go.IntKind.i64 (Int.ofNat 2))), (Go.V.VV.lit (Go.Value.int Go.IntKind.i64 (Int.ofNat 2)))] 2 Bool.false), (Go.V.VV.lit (Go.Value.int Go.IntKind.i64 (Int.ofNat 0)))])
def kMelts : VV := (Go.V.VV.tup [(Go.V.VV.sl [(Go.V.VV.lit (Go.Value.int Go.IntKind.i64 (Int.ofNat 3)))] 1 Bool.false), (Go.V.VV.lit (Go.Value.int Go.IntKind.i64 (Int.ofNat 0)))])
def kHidden : VV := (Go.V.VV.tup [(Go.V.VV.sl [(Go.V.VV.lit (Go.Value.int Go.IntKind.i64 (Int.ofNat 0)))] 1 Bool.false), (Go.V.VV.lit (Go.Value.int Go.IntKind.i64 (Int.ofNat 0)))])
def kMany : VV := (Go.V.VV.tup [(Go.V.VV.lit (Go.Value.int Go.IntKind.i64 (Int.ofNat 3))), (Go.V.VV.lit (Go.Value.int Go.IntKind.i64 (Int.ofNat 3))), (Go.V.VV.lit (Go.Value.int Go.IntKind.i64 (Int.ofNat 0)))])
def kFarthest : VV := (Go.V.VV.tup [(Go.V.VV.agg [(Go.V.VV.lit (Go.Value.int Go.IntKind.i64 (Int.ofNat 0))), (Go.V.VV.lit (Go.Value.int Go.IntKind.i64 (Int.ofNat 2)))]), (Go.V.VV.lit (Go.Value.int Go.IntKind.i64 (Int.ofNat 0)))])
def kLeast : VV := (Go.V.VV.tup [(Go.V.VV.lit (Go.Value.int Go.IntKind.i64 (Int.ofNat 5))), (Go.V.VV.lit (Go.Value.int Go.IntKind.i64 (Int.ofNat 0)))])
def kLight : VV := (Go.V.VV.tup [(Go.V.VV.lit (Go.Value.int Go.IntKind.i64 (Int.ofNat 38))), (Go.V.VV.lit (Go.Value.int Go.IntKind.i64 (Int.ofNat 0)))])
def kHang : VV := (Go.V.VV.tup [(Go.V.VV.lit (Go.Value.int Go.IntKind.i64 (Int.ofNat 1))), (Go.V.VV.lit (Go.Value.int Go.IntKind.i64 (Int.ofNat 4))), (Go.V.VV.lit (Go.Value.int Go.IntKind.i64 (Int.ofNat 0)))])
def kRead : VV := (Go.V.VV.tup [(Go.V.VV.agg [(Go.V.VV.lit (Go.Value.int Go.IntKind.i64 (Int.ofNat 1))), (Go.V.VV.lit (Go.Value.int Go.IntKind.i64 (Int.ofNat 1))), (Go.V.VV.lit (Go.Value.int Go.IntKind.i64 (Int.ofNat 1))), (Go.V.VV.lit (Go.Value.int Go.IntKind.i64 (Int.ofNat 1))), (Go.V.VV.lit (Go.Value.int Go.IntKind.i64 (Int.ofNat 1))), (Go.V.VV.lit (Go.Value.int Go.IntKind.i64 (Int.ofNat 1))), (Go.V.VV.sl [(Go.V.VV.lit (Go.Value.int Go.IntKind.i64 (Int.ofNat 0))), (Go.V.VV.sl [(Go.V.VV.lit (Go.Value.int Go.IntKind.i64 (Int.ofNat 1))), (Go.V.VV.lit (Go.Value.int Go.IntKind.i64 (Int.ofNat 1))), (Go.V.VV.lit (Go.Value.int Go.IntKind.i64 (Int.ofNat 1))), (Go.V.VV.lit (Go.Value.int Go.IntKind.i64 (Int.ofNat 0)))] 1 Bool.false)] 1 Bool.false), (Go.V.VV.lit (Go.Value.slice Option.none 0 0))]), (Go.V.VV.lit (Go.Value.int Go.IntKind.i64 (Int.ofNat 0)))])
end Go.V
end
section
namespace Go.V
open Go Go.Proofs
theorem pS : VPure Tryz.prog G0 48 [] (.tree kS) := VPure.closedB hmix 1000 (by kernel_rfl)
theorem pT : VPure Tryz.prog G0 51 [] (.tree kT) := VPure.closedB hmix 1000 (by kernel_rfl)
theorem pAt46 : VPure Tryz.prog G0 39 [.lit (.int .i64 (4)), .lit (.int .i64 (6))] (.tree kAt46) := VPure.closedB hmix 1000 (by kernel_rfl)
theorem pAt41 : VPure Tryz.prog G0 39 [.lit (.int .i64 (4)), .lit (.int .i64 (1))] (.tree kAt41) := VPure.closedB hmix 1000 (by kernel_rfl)
theorem pAt201 : VPure Tryz.prog G0 39 [.lit (.int .i64 (20)), .lit (.int .i64 (1))] (.tree kAt201) := VPure.closedB hmix 1000 (by kernel_rfl)
theorem pAt166 : VPure Tryz.prog G0 39 [.lit (.int .i64 (16)), .lit (.int .i64 (6))] (.tree kAt166) := VPure.closedB hmix 1000 (by kernel_rfl)
theorem pAt106 : VPure Tryz.prog G0 39 [.lit (.int .i64 (10)), .lit (.int .i64 (6))] (.tree kAt106) := VPure.closedB hmix 1000 (by kernel_rfl)
theorem pSeen : VPure Tryz.prog G0 25 [kS, .lit (.int .i64 (0)), kAt46] (.tree kSeen) := VPure.closedB hmix 1000 (by kernel_rfl)
theorem pWhy : VPure Tryz.prog G0 40 [kS, .lit (.int .i64 (0)), kAt41] (.tree kWhy) := VPure.closedB hmix 1000 (by kernel_rfl)
theorem pLetters : VPure Tryz.prog G0 49 [kS, .lit (.int .i64 (0)), kAt46] (.tree kLetters) := VPure.closedB hmix 1000 (by kernel_rfl)
end Go.V
end
section
namespace Go.V
open Go Go.Proofs
theorem pMelts : VPure Tryz.prog G0 50 [kS, .lit (.int .i64 (0)), kAt201] (.tree kMelts) := VPure.closedB hmix 1000 (by kernel_rfl)
theorem pHidden : VPure Tryz.prog G0 41 [kS, .lit (.int .i64 (0)), kAt166] (.tree kHidden) := VPure.closedB hmix 1000 (by kernel_rfl)
end Go.V
end
section
namespace Go.V
open Go Go.Proofs
theorem pMany : VPure Tryz.prog G0 17 [kT, .lit (.int .i64 (0))] (.tree kMany) := VPure.closedB hmix 1000 (by kernel_rfl)
theorem pFarthest : VPure Tryz.prog G0 18 [kT, .lit (.int .i64 (0))] (.tree kFarthest) := VPure.closedB hmix 1000 (by kernel_rfl)
theorem pLeast : VPure Tryz.prog G0 52 [kS, .lit (.int .i64 (0)), kAt41] (.tree kLeast) := VPure.closedB hmix 1000 (by kernel_rfl)
end Go.V
end
section
namespace Go.V
open Go Go.Proofs
theorem pLight : VPure Tryz.prog G0 32 [kS, .lit (.int .i64 (0)), kAt106] (.tree kLight) := VPure.closedB hmix 1000 (by kernel_rfl)
end Go.V
end
section
namespace Go.V
open Go Go.Proofs
theorem pHang : VPure Tryz.prog G0 34 [kT, .lit (.int .i64 (0))] (.tree kHang) := VPure.closedB hmix 1000 (by kernel_rfl)
end Go.V
end
section
namespace Go.V
open Go Go.Proofs
theorem pRead : VPure Tryz.prog G0 44 [.lit (.string ⟨⟨[115, 105, 103, 104, 116, 32, 49, 32, 49, 32, 49, 32, 49, 32, 49, 32, 49, 10, 98, 111, 97, 114, 100, 32, 48, 10, 108, 101, 116, 116, 101, 114, 32, 49, 32, 49, 32, 49, 32, 48, 10, 101, 110, 100, 32, 48, 49, 57, 10]⟩⟩)] (.tree kRead) := VPure.closedB hmix 1000 (by kernel_rfl)
end Go.V
end
section
namespace Go.V
open Go Go.Proofs
def kTab : KTab := [
  (48, [], kS),
  (51, [], kT),
  (39, [.lit (.int .i64 (4)), .lit (.int .i64 (6))], kAt46),
  (39, [.lit (.int .i64 (4)), .lit (.int .i64 (1))], kAt41),
  (39, [.lit (.int .i64 (20)), .lit (.int .i64 (1))], kAt201),
  (39, [.lit (.int .i64 (16)), .lit (.int .i64 (6))], kAt166),
  (39, [.lit (.int .i64 (10)), .lit (.int .i64 (6))], kAt106),
  (25, [kS, .lit (.int .i64 (0)), kAt46], kSeen),
  (40, [kS, .lit (.int .i64 (0)), kAt41], kWhy),
  (49, [kS, .lit (.int .i64 (0)), kAt46], kLetters),
  (50, [kS, .lit (.int .i64 (0)), kAt201], kMelts),
  (41, [kS, .lit (.int .i64 (0)), kAt166], kHidden),
  (17, [kT, .lit (.int .i64 (0))], kMany),
  (18, [kT, .lit (.int .i64 (0))], kFarthest),
  (52, [kS, .lit (.int .i64 (0)), kAt41], kLeast),
  (32, [kS, .lit (.int .i64 (0)), kAt106], kLight),
  (34, [kT, .lit (.int .i64 (0))], kHang),
  (44, [.lit (.string ⟨⟨[115, 105, 103, 104, 116, 32, 49, 32, 49, 32, 49, 32, 49, 32, 49, 32, 49, 10, 98, 111, 97, 114, 100, 32, 48, 10, 108, 101, 116, 116, 101, 114, 32, 49, 32, 49, 32, 49, 32, 48, 10, 101, 110, 100, 32, 48, 49, 57, 10]⟩⟩)], kRead)]
theorem kTabOk : KTabOk Tryz.prog G0 kTab := ⟨⟨by kernel_rfl, pS⟩, ⟨⟨by kernel_rfl, pT⟩, ⟨⟨by kernel_rfl, pAt46⟩, ⟨⟨by kernel_rfl, pAt41⟩, ⟨⟨by kernel_rfl, pAt201⟩, ⟨⟨by kernel_rfl, pAt166⟩, ⟨⟨by kernel_rfl, pAt106⟩, ⟨⟨by kernel_rfl, pSeen⟩, ⟨⟨by kernel_rfl, pWhy⟩, ⟨⟨by kernel_rfl, pLetters⟩, ⟨⟨by kernel_rfl, pMelts⟩, ⟨⟨by kernel_rfl, pHidden⟩, ⟨⟨by kernel_rfl, pMany⟩, ⟨⟨by kernel_rfl, pFarthest⟩, ⟨⟨by kernel_rfl, pLeast⟩, ⟨⟨by kernel_rfl, pLight⟩, ⟨⟨by kernel_rfl, pHang⟩, ⟨⟨by kernel_rfl, pRead⟩, trivial⟩⟩⟩⟩⟩⟩⟩⟩⟩⟩⟩⟩⟩⟩⟩⟩⟩⟩
theorem pKnown : VPure Tryz.prog G0 16 [] (.tree (.lit (.bool true))) := VPure.closedT hmix kTabOk 1000 (by kernel_rfl)
#print axioms pKnown
end Go.V
end
section
namespace Go.V
open Go Go.Proofs
theorem g_law02_known_ok : VPure Tryz.prog G0 16 [] (.tree (.lit (.bool true))) := pKnown
end Go.V
end
