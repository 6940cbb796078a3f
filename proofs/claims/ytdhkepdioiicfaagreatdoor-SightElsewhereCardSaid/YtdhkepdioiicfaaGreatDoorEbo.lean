/- Part of a proof: a logic of values by content, lifted functions, what follows. -/
import Derived.Test.YtdhkepdioiicfaaGreatDoorEbf
import Derived.Test.YtdhkepdioiicfaaGreatDoorEbn
import Derived.Test.YtdhkepdioiicfaaGreatDoorEbi
import Derived.Test.YtdhkepdioiicfaaGreatDoorEbl
set_option linter.all false
set_option maxRecDepth 4000
set_option maxHeartbeats 4000000
section
namespace Go.V
open Go Go.Proofs
def g_sight_Hang_l2 (x0_s : GSightStreet) (x3 : GSightBoard) (c0_9 : Int) (c1_8 : Int) : Nat → Int → Int → Option (LOut (Unit) (Int))
 | 0, c2_13, c2_o0 => some (.go c2_o0)
 | k2 + 1, c2_13, c2_o0 => Option.bind (g_sight_isSurelyRead x0_s (GSightBoard.mk c0_9 x3.Letters) (GSightPlace.mk c1_8 (c2_13 + 1))) (fun r13 => cond (r13) (g_sight_Hang_l2 x0_s x3 c0_9 c1_8 k2 (c2_13 + 1) (IntKind.i64.wrap (c2_o0 + 1))) (g_sight_Hang_l2 x0_s x3 c0_9 c1_8 k2 (c2_13 + 1) c2_o0))
def g_sight_Hang_l1 (x0_s : GSightStreet) (x3 : GSightBoard) (c0_9 : Int) : Nat → Int → Int → Option (LOut (Unit) (Int))
 | 0, c1_8, c1_o0 => some (.go c1_o0)
 | k1 + 1, c1_8, c1_o0 => cond (boundOk x0_s.Width) (lbind (g_sight_Hang_l2 x0_s x3 c0_9 c1_8 (Int.toNat (x0_s.Width - 0)) 0 c1_o0) (fun r15 => some (.ret r15)) (fun c14 => g_sight_Hang_l1 x0_s x3 c0_9 k1 (c1_8 + 1) c14) (fun _ _ => none)) none
def g_sight_Hang_l0 (x0_s : GSightStreet) (x3 : GSightBoard) : Nat → Int → Int → Int → Bool → Int → Option (LOut (Unit) (Int × Int × Bool × Int))
 | 0, c0_9, c0_o0, c0_o1, c0_o2, c0_o3 => some (.go (c0_o0, c0_o1, c0_o2, c0_o3))
 | k0 + 1, c0_9, c0_o0, c0_o1, c0_o2, c0_o3 => lbind (g_sight_Hang_l1 x0_s x3 c0_9 (Int.toNat ((IntKind.i64.wrap (x0_s.Length + 1)) - 0)) 0 0) (fun r18 => cond (c0_o2) (Option.bind (g_sight_Hang_1 (Gsighthanging.mk c0_9 0) (Gsighthanging.mk c0_o0 c0_o1)) (fun r19 => cond (r19) (g_sight_Hang_l0 x0_s x3 k0 (c0_9 + 1) c0_9 0 true c0_9) (g_sight_Hang_l0 x0_s x3 k0 (c0_9 + 1) c0_o0 c0_o1 true c0_9))) (g_sight_Hang_l0 x0_s x3 k0 (c0_9 + 1) c0_9 0 true c0_9)) (fun c16 => cond (c0_o2) (Option.bind (g_sight_Hang_1 (Gsighthanging.mk c0_9 c16) (Gsighthanging.mk c0_o0 c0_o1)) (fun r17 => cond (r17) (g_sight_Hang_l0 x0_s x3 k0 (c0_9 + 1) c0_9 c16 true c0_9) (g_sight_Hang_l0 x0_s x3 k0 (c0_9 + 1) c0_o0 c0_o1 true c0_9))) (g_sight_Hang_l0 x0_s x3 k0 (c0_9 + 1) c0_9 c16 true c0_9)) (fun _ _ => none)
def g_sight_Hang (x0_s : GSightStreet) (x1_board : Int) : Option (Int × Int × Int) := Option.bind (g_sight_isStreet x0_s) (fun r1 => cond (r1) (Option.bind (g_sight_isBoard x0_s x1_board) (fun r2 => cond (r2) (Option.bind (getI x0_s.Boards x1_board) (fun x3 => cond (boundOk (IntKind.i64.wrap (x0_s.Length + 1))) (lbind (g_sight_Hang_l0 x0_s x3 (Int.toNat ((IntKind.i64.wrap (x0_s.Length + 1)) - 0)) 0 0 0 false x3.At) (fun r21 => some (0, 0, 0)) (fun c20 => some (c20.1, c20.2.1, 0)) (fun _ _ => none)) none)) (some (0, 0, 2)))) (some (0, 0, 2)))
theorem g_sight_Hang_ok (x0_s : GSightStreet) (x1_board : Int) (R : Int × Int × Int) (h : g_sight_Hang x0_s x1_board = some R) : VPure Tryz.prog G0 34 [.agg (cGSightStreet x0_s), .lit (.int .i64 x1_board)] (.tree (.tup [.lit (.int .i64 R.1), .lit (.int .i64 R.2.1), .lit (.int .i64 R.2.2)])) := by
 refine VPure.runR mixed Tryz.call34 Tryz.func34 rfl (by simp [Tryz.ntmps34]; kernel_rfl) ?_
 obtain ⟨KF, h, kF, kN⟩ := fun_intro h
 simp only [g_sight_Hang] at h
 rcases o23 : (g_sight_isStreet x0_s) with _ | r22
 ·simp only [o23, hs] at h
  exact absurd h kN
 simp only [o23, hs] at h
 simp only [vz, flr, tyf, nm, seval]
 refine ktree (args0 := [.agg (cGSightStreet x0_s)]) (by first | (simp only [nrm, tynrm] <;> rfl) | rfl) (by simp only [tre, tytre, Bool.and_self]) (g_sight_isStreet_ok _ _ o23) ?_
 refine fin_cut (fun tm => tm 1 = .lit (.int .i64 x1_board) ∧ tm 2 = .ptr 0 0 ∧ tm 10 = .lit (.bool r22) ∧ True) (by refine ⟨?_, ?_, ?_, trivial⟩ <;> first | (simp only [ua, nm, seval] <;> rfl) | rfl) ?_
 rintro tm ⟨e24, e25, e26, _⟩
 cases d27 : (r22)
 ·simp only [d27, hs] at h
  try simp only [vz, flr, tyf, e24, e25, e26, d27, nm, seval]
  refine opd_ret (x := (.tup [.lit (.int .i64 0), .lit (.int .i64 0), .lit (.int .i64 2)])) (by first | (simp only [Tryz.results34, resV, resL, resV1, tgt_ptr, tgt_tp, uw, cr, tyf, d27, nm, seval] <;> rfl) | rfl) ?_
  obtain rfl := kF _ h
  refine rr_tree ?_ ?_
  ·simp only [tre, tytre, Bool.and_self]
  ·first | (simp only [outV, uw, showV_ref, cr, tyf, nrm, tynrm, e24, e25, e26, d27, nm, seval] <;> rfl) | rfl
 simp only [d27, hs] at h
 rcases o29 : (g_sight_isBoard x0_s x1_board) with _ | r28
 ·simp only [o29, hs] at h
  exact absurd h kN
 simp only [o29, hs] at h
 simp only [vz, flr, tyf, e24, e25, e26, d27, nm, seval]
 refine ktree (args0 := [.agg (cGSightStreet x0_s), .lit (.int .i64 x1_board)]) (by first | (simp only [nrm, tynrm] <;> rfl) | rfl) (by simp only [tre, tytre, Bool.and_self]) (g_sight_isBoard_ok _ _ _ o29) ?_
 refine fin_cut (fun tm => tm 1 = .lit (.int .i64 x1_board) ∧ tm 2 = .ptr 0 0 ∧ tm 12 = .lit (.bool false) ∧ tm 15 = .lit (.bool r28) ∧ True) (by refine ⟨e24, e25, ?_, ?_, trivial⟩ <;> first | (simp only [ua, e24, e25, e26, d27, nm, seval] <;> rfl) | rfl) ?_
 rintro tm ⟨e30, e31, e32, e33, _⟩
 cases d34 : (r28)
 ·simp only [d34, hs] at h
  try simp only [vz, flr, tyf, d27, e30, e31, e32, e33, d34, nm, seval]
  refine opd_ret (x := (.tup [.lit (.int .i64 0), .lit (.int .i64 0), .lit (.int .i64 2)])) (by first | (simp only [Tryz.results34, resV, resL, resV1, tgt_ptr, tgt_tp, uw, cr, tyf, d27, d34, nm, seval] <;> rfl) | rfl) ?_
  obtain rfl := kF _ h
  refine rr_tree ?_ ?_
  ·simp only [tre, tytre, Bool.and_self]
  ·first | (simp only [outV, uw, showV_ref, cr, tyf, nrm, tynrm, d27, e30, e31, e32, e33, d34, nm, seval] <;> rfl) | rfl
 simp only [d34, hs] at h
 simp only [vz, flr, tyf, d27, e30, e31, e32, e33, d34, nm, seval]
 refine cwp_cutF (fun tm => tm 1 = .lit (.int .i64 x1_board) ∧ tm 2 = .ptr 0 0 ∧ True) (by refine ⟨e30, e31, trivial⟩ <;> first | (simp only [ua, d27, e30, e31, e32, e33, d34, nm, seval] <;> rfl) | rfl) ?_
 rintro tm ⟨e35, e36, _⟩
 refine cwp_drawF mixed 11 [([true, true, true, true, true, true, false, false, false, false, false, false, false, false], 6), ([false, false, false, false, false, false, false, false, false, false, false, false, false, false], 7)] [false, false, false, false, false, false, false, false, true, true, true, false, true, true] [false, false, false, false, false, false, false, false, true, true, true, true, true, true] (by kernel_rfl) ?_
 refine flGo_segL ?_
 rcases o38 : (getI x0_s.Boards x1_board) with _ | x37
 ·simp only [o38, hs] at h
  exact absurd h kN
 simp only [o38, hs] at h
 simp only [vz, flr, tyf, d27, d34, e35, e36, (ix24 o38), nm, seval]
 refine flR_end ⟨?_, ?_⟩
 ·try simp only [traceR_cons, traceR_nil, hitK_quiet, hitK_nil, and_true, true_and]
  repeat' (first | exact trivial | refine And.intro ?_ ?_ | rw [hitK_quiet] | rw [hitK_cons] | exact Or.inl (by decide +kernel) | exact Or.inl (by dsimp only; decide +kernel) | (refine Or.inr ⟨?_, ?_⟩ <;> simp; done) | (refine Or.inr ⟨?_, ?_⟩ <;> simp <;> omega) | (refine Or.inr ⟨?_, ?_⟩ <;> simp [VEff.wr] <;> omega))
 refine ⟨?_, ?_⟩
 ·refine flB_go rfl ?_
  try simp only [vz, flr, tyf, d27, d34, e35, e36, (ix24 o38), nm, seval]
  refine kopen ?_
  rw [openK_eq]
  refine VOpen.run mixed Tryz.call77 Tryz.func77 rfl (by simp [Tryz.ntmps77]; kernel_rfl) ?_
  try simp only [vz, flr, tyf, d27, d34, (ix24 o38), nm, seval]
  refine opd_ret (x := (VV.fn (Fn.func 107) [] [.ptr 27 0, .ptr 28 0])) (by first | (simp only [Tryz.results77, resV, resL, resV1, tgt_ptr, tgt_tp, uw, cr, tyf, d27, d34, (ix24 o38), nm, seval] <;> rfl) | rfl) ?_
  try simp only [vz, flr, tyf, d27, d34, (ix24 o38), e35, e36, nm, seval]
  refine flGo_segL ?_
  simp only [vz, flr, tyf, d27, d34, (ix24 o38), e35, e36, nm, seval]
  refine flR_end ⟨?_, ?_⟩
  ·try simp only [traceR_cons, traceR_nil, hitK_quiet, hitK_nil, and_true, true_and]
   repeat' (first | exact trivial | refine And.intro ?_ ?_ | rw [hitK_quiet] | rw [hitK_cons] | exact Or.inl (by decide +kernel) | exact Or.inl (by dsimp only; decide +kernel) | (refine Or.inr ⟨?_, ?_⟩ <;> simp; done) | (refine Or.inr ⟨?_, ?_⟩ <;> simp <;> omega) | (refine Or.inr ⟨?_, ?_⟩ <;> simp [VEff.wr] <;> omega))
  refine ⟨?_, ?_⟩
  ·refine flB_go rfl ?_
   try simp only [vz, flr, tyf, d27, d34, (ix24 o38), e35, e36, nm, seval]
   refine kopen ?_
   rw [openK_eq]
   refine VOpen.run mixed Tryz.call76 Tryz.func76 rfl (by simp [Tryz.ntmps76]; kernel_rfl) ?_
   try simp only [vz, flr, tyf, d27, d34, (ix24 o38), nm, seval]
   refine range_open (f := 107) (first := []) (captured := [.ptr 27 0, .ptr 28 0]) (by first | (simp only [ev_tmp, ev_func, d27, d34, (ix24 o38), upd_apply, nm, seval] <;> rfl) | rfl) ?_
   intro LO39 hLO39
   refine VOpen.run mixed Tryz.call107 Tryz.func107 rfl (by simp [Tryz.ntmps107]; kernel_rfl) ?_
   cases g41 : (boundOk (IntKind.i64.wrap (x0_s.Length + 1)))
   ·simp only [g41, hs] at h
    exact absurd h kN
   simp only [g41, hs] at h
   simp only [vz, flr, tyf, d27, d34, (ix24 o38), g41, nm, seval]
   obtain ⟨K40, h, kR40, kG40, kB40, kN40⟩ := lbind_intro h kN
   obtain ⟨f40, hf40, h⟩ := call6 h
   obtain ⟨I40, hI40⟩ : ∃ I : Nat → St → Prop, I = (fun m st => ∃ (p40 : Nat) (c40_9 : Int) (c40_o0 : Int) (c40_o1 : Int) (c40_o2 : Bool) (c40_o3 : Int), p40 = m ∧ loOk c40_9 = true ∧ Int.toNat ((IntKind.i64.wrap (x0_s.Length + 1)) - c40_9) = p40 ∧ st.df = [] ∧ 45 ≤ st.nx ∧ st.H 27 = some (.cells (some 27) (cGSightStreet x0_s)) ∧ st.H 28 = some (.cells (some 40) ([.lit (.int .i64 c40_o3)] ++ [.sl (cellsL cGSightLetter x37.Letters) (List.length x37.Letters) false])) ∧ st.H 32 = some (.cells (some 123) ([VV.fn (Fn.func 78) [] []])) ∧ st.H 33 = some (.cells (some 117) ([.lit (.int .i64 0)] ++ [.lit (.int .i64 0)])) ∧ st.H 35 = some (.cells (some 117) ([.lit (.int .i64 c40_o0)] ++ [.lit (.int .i64 c40_o1)])) ∧ st.H 36 = some (.cells (some 4) ([.lit (.bool c40_o2)])) ∧ st.H 39 = some (.deferred (some [])) ∧ st.H 40 = some LO39 ∧ st.tm 0 = .yl 40 ∧ st.tm 1 = .ptr 27 0 ∧ st.tm 2 = .ptr 28 0 ∧ st.tm 8 = .lit (.int .i64 (IntKind.i64.wrap (x0_s.Length + 1))) ∧ st.tm 9 = .lit (.int .i64 c40_9) ∧ K40 (f40 p40 c40_9 c40_o0 c40_o1 c40_o2 c40_o3)) := ⟨_, rfl⟩
   refine loopK mixed (by kernel_rfl) I40 (Int.toNat ((IntKind.i64.wrap (x0_s.Length + 1)) - 0)) (by rw [hI40]; refine ⟨Int.toNat ((IntKind.i64.wrap (x0_s.Length + 1)) - 0), 0, 0, 0, false, x37.At, rfl, (by rfl), rfl, rfl, (show 45 ≤ 45 by omega), ?_, ?_, ?_, ?_, ?_, ?_, ?_, ?_, ?_, ?_, ?_, ?_, ?_, h⟩ <;> first | (simp only [ua, d27, d34, nm, seval] <;> rfl) | rfl) ?_
   rintro m ⟨tm, H, nx40, df⟩ hinv
   rw [hI40] at hinv
   obtain ⟨p40, c40_9, c40_o0, c40_o1, c40_o2, c40_o3, rfl, hi40, hp40, hdf, hn40, H42, H43, H44, H45, H46, H47, H48, H49, e50, e51, e52, e53, e54, h⟩ := hinv
   simp only at hdf hn40 H42 H43 H44 H45 H46 H47 H48 H49 e50 e51 e52 e53 e54
   have n55 := base_ne0 (m := 45) (b := nx40) (by omega)
   subst hdf hf40
   cases p40 with
   | zero =>
    have d56 : (decide (c40_9 < (IntKind.i64.wrap (x0_s.Length + 1)))) = false := cnt_not_lt hp40
    simp only [g_sight_Hang_l0, hs, reduceCtorEq] at h
    replace h := kG40 _ h
    try dsimp only at h
    try simp only [hs] at h
    try simp only [vz, flr, tyf, d27, d34, (ix24 o38), g41, n55, e50, e51, e52, e53, e54, H42, H43, H44, H45, H46, H47, H48, H49, d56, nm, seval]
    refine opd_normal (x := .tup []) (by simp [Tryz.results107, resV, resL]) ?_
    refine rangeEnd_go hLO39 (by simp only [updH_apply, without_apply, n55, H42, H43, H44, H45, H46, H47, H48, H49, nm, seval] <;> rfl) ?_
    intro LX57
    simp only [vz, flr, tyf, d27, d34, (ix24 o38), g41, n55, H42, H43, H44, H45, H46, H47, H48, H49, d56, nm, seval]
    refine cwp_drawTF (fun tm => tm 4 = .ptr 33 0 ∧ tm 6 = .ptr 35 0 ∧ tm 7 = .ptr 36 0 ∧ True) (by refine ⟨?_, ?_, ?_, trivial⟩ <;> first | (simp only [ua, d27, d34, n55, H42, H43, H44, H45, H46, H47, H48, H49, d56, nm, seval] <;> rfl) | rfl) ?_
    rintro tm ⟨e58, e59, e60, _⟩
    have b61 := And.intro d27 (And.intro d34 (And.intro g41 (And.intro n55 (And.intro H42 (And.intro H43 (And.intro H44 (And.intro H45 (And.intro H46 (And.intro H47 (And.intro H48 (And.intro H49 d56)))))))))))
    simp only [vz, flr, tyf, b61, (ix24 o38), e58, e59, e60, nm, seval]
    refine drawK_nil ⟨?_, ?_⟩
    ·simp only [traceR_cons, traceR_nil, hitK_quiet, hitK_nil, and_true, true_and]
     repeat' (first | exact trivial | refine And.intro ?_ ?_ | rw [hitK_quiet] | rw [hitK_cons] | exact Or.inl (by decide +kernel) | exact Or.inl (by dsimp only; decide +kernel) | (refine Or.inr ⟨?_, ?_⟩ <;> simp; done) | (refine Or.inr ⟨?_, ?_⟩ <;> simp <;> omega) | (refine Or.inr ⟨?_, ?_⟩ <;> simp [VEff.wr] <;> omega))
    try simp only [vz, flr, tyf, b61, (ix24 o38), e58, e59, e60, nm, seval]
    refine opd_coll (by simp only [updH_apply, without_apply, b61, nm, seval] <;> rfl) ?_
    try simp only [vz, flr, tyf, b61, (ix24 o38), e58, e59, e60, nm, seval]
    refine opd_ret (x := (.tup [.agg ([.lit (.int .i64 c40_o0)] ++ [.lit (.int .i64 c40_o1)]), .lit (.bool c40_o2)])) (by first | (simp only [Tryz.results76, resV, resL, resV1, tgt_ptr, tgt_tp, uw, cr, tyf, b61, (ix24 o38), e58, e59, e60, nm, seval] <;> rfl) | rfl) ?_
    try simp only [vz, flr, tyf, b61, (ix24 o38), e35, e36, nm, seval]
    refine flGo_lastL ?_
    simp only [vz, flr, tyf, b61, (ix24 o38), e35, e36, nm, seval]
    refine flR_end ⟨?_, ?_⟩
    ·try simp only [traceR_cons, traceR_nil, hitK_quiet, hitK_nil, and_true, true_and]
     repeat' (first | exact trivial | refine And.intro ?_ ?_ | rw [hitK_quiet] | rw [hitK_cons] | exact Or.inl (by decide +kernel) | exact Or.inl (by dsimp only; decide +kernel) | (refine Or.inr ⟨?_, ?_⟩ <;> simp; done) | (refine Or.inr ⟨?_, ?_⟩ <;> simp <;> omega) | (refine Or.inr ⟨?_, ?_⟩ <;> simp [VEff.wr] <;> omega))
    try simp only [vz, flr, tyf, b61, (ix24 o38), e35, e36, nm, seval]
    refine cwp_drwQF (fun tm => tm 7 = .ptr 24 0 ∧ True) (by refine ⟨?_, trivial⟩ <;> first | (simp only [ua, b61, e35, e36, nm, seval] <;> rfl) | rfl) ?_
    rintro tm ⟨e62, _⟩
    try simp only [vz, flr, tyf, b61, (ix24 o38), e62, nm, seval]
    refine opd_ret (x := (.tup [.lit (.int .i64 c40_o0), .lit (.int .i64 c40_o1), .lit (.int .i64 0)])) (by first | (simp only [Tryz.results34, resV, resL, resV1, tgt_ptr, tgt_tp, uw, cr, tyf, b61, (ix24 o38), nm, seval] <;> rfl) | rfl) ?_
    obtain rfl := kF _ h
    refine rr_tree ?_ ?_
    ·simp only [tre, tytre, Bool.and_self]
    ·first | (simp only [outV, uw, showV_ref, cr, tyf, nrm, tynrm, b61, (ix24 o38), e62, nm, seval] <;> rfl) | rfl
   | succ p40 =>
    have d63 : (decide (c40_9 < (IntKind.i64.wrap (x0_s.Length + 1)))) = true := cnt_lt hp40
    have w64 := cnt_wrap hi40 hp40 g41
    simp only [g_sight_Hang_l0, hs, reduceCtorEq] at h
    try simp only [vz, flr, tyf, d27, d34, (ix24 o38), g41, n55, e50, e51, e52, e53, e54, H42, H43, H44, H45, H46, H47, H48, H49, d63, w64, nm, seval]
    refine kopen ?_
    rw [openK_eq]
    refine VOpen.run mixed Tryz.call57 Tryz.func57 rfl (by simp [Tryz.ntmps57]; kernel_rfl) ?_
    try simp only [vz, flr, tyf, d27, d34, (ix24 o38), g41, n55, H42, H43, H44, H45, H46, H47, H48, H49, d63, w64, nm, seval]
    refine kopen ?_
    rw [openK_eq]
    refine VOpen.run mixed Tryz.call64 Tryz.func64 rfl (by simp [Tryz.ntmps64]; kernel_rfl) ?_
    try simp only [vz, flr, tyf, d27, d34, (ix24 o38), g41, n55, H42, H43, H44, H45, H46, H47, H48, H49, d63, w64, nm, seval]
    refine kopen ?_
    rw [openK_eq]
    refine VOpen.run mixed Tryz.call98 Tryz.func98 rfl (by simp [Tryz.ntmps98]; kernel_rfl) ?_
    try simp only [vz, flr, tyf, d27, d34, (ix24 o38), g41, n55, H42, H43, H44, H45, H46, H47, H48, H49, d63, w64, nm, seval]
    refine opd_ret (x := (VV.fn (Fn.func 126) [] [.ptr (nx40 + 24) 0])) (by first | (simp only [Tryz.results98, resV, resL, resV1, tgt_ptr, tgt_tp, uw, cr, tyf, d27, d34, (ix24 o38), g41, n55, H42, H43, H44, H45, H46, H47, H48, H49, d63, w64, nm, seval] <;> rfl) | rfl) ?_
    try simp only [vz, flr, tyf, d27, d34, (ix24 o38), g41, n55, H42, H43, H44, H45, H46, H47, H48, H49, d63, w64, nm, seval]
    refine kopen ?_
    rw [openK_eq]
    refine VOpen.run mixed Tryz.call100 Tryz.func100 rfl (by simp [Tryz.ntmps100]; kernel_rfl) ?_
    try simp only [vz, flr, tyf, d27, d34, (ix24 o38), g41, n55, H42, H43, H44, H45, H46, H47, H48, H49, d63, w64, nm, seval]
    refine opd_ret (x := (VV.fn (Fn.func 127) [] [.ptr (nx40 + 28) 0, .ptr (nx40 + 29) 0])) (by first | (simp only [Tryz.results100, resV, resL, resV1, tgt_ptr, tgt_tp, uw, cr, tyf, d27, d34, (ix24 o38), g41, n55, H42, H43, H44, H45, H46, H47, H48, H49, d63, w64, nm, seval] <;> rfl) | rfl) ?_
    try simp only [vz, flr, tyf, d27, d34, (ix24 o38), g41, n55, H42, H43, H44, H45, H46, H47, H48, H49, d63, w64, nm, seval]
    refine opd_ret (x := (VV.fn (Fn.func 127) [] [.ptr (nx40 + 28) 0, .ptr (nx40 + 29) 0])) (by first | (simp only [Tryz.results64, resV, resL, resV1, tgt_ptr, tgt_tp, uw, cr, tyf, d27, d34, (ix24 o38), g41, n55, H42, H43, H44, H45, H46, H47, H48, H49, d63, w64, nm, seval] <;> rfl) | rfl) ?_
    try simp only [vz, flr, tyf, d27, d34, (ix24 o38), g41, n55, H42, H43, H44, H45, H46, H47, H48, H49, d63, w64, nm, seval]
    refine range_open (f := 127) (first := []) (captured := [.ptr (nx40 + 28) 0, .ptr (nx40 + 29) 0]) (by first | (simp only [ev_tmp, ev_func, d27, d34, (ix24 o38), g41, n55, H42, H43, H44, H45, H46, H47, H48, H49, d63, w64, upd_apply, nm, seval] <;> rfl) | rfl) ?_
    intro LO65 hLO65
    refine VOpen.run mixed Tryz.call127 Tryz.func127 rfl (by simp [Tryz.ntmps127]; kernel_rfl) ?_
    try simp only [vz, flr, tyf, d27, d34, (ix24 o38), g41, n55, H42, H43, H44, H45, H46, H47, H48, H49, d63, w64, nm, seval]
    refine range_open (f := 126) (first := []) (captured := [.ptr (nx40 + 24) 0]) (by first | (simp only [ev_tmp, ev_func, d27, d34, (ix24 o38), g41, n55, H42, H43, H44, H45, H46, H47, H48, H49, d63, w64, upd_apply, nm, seval] <;> rfl) | rfl) ?_
    intro LO66 hLO66
    refine VOpen.run mixed Tryz.call126 Tryz.func126 rfl (by simp [Tryz.ntmps126]; kernel_rfl) ?_
    simp only [vz, flr, tyf, d27, d34, (ix24 o38), g41, n55, H42, H43, H44, H45, H46, H47, H48, H49, d63, w64, nm, seval]
    obtain ⟨K67, h, kR67, kG67, kB67, kN67⟩ := lbind_intro h kN40
    obtain ⟨f67, hf67, h⟩ := call3 h
    obtain ⟨I67, hI67⟩ : ∃ I : Nat → St → Prop, I = (fun m st => ∃ (p67 : Nat) (c67_8 : Int) (c67_o0 : Int), p67 = m ∧ loOk c67_8 = true ∧ Int.toNat ((IntKind.i64.wrap (x0_s.Length + 1)) - c67_8) = p67 ∧ st.df = [] ∧ nx40 + 43 ≤ st.nx ∧ st.H 27 = some (.cells (some 27) (cGSightStreet x0_s)) ∧ st.H 28 = some (.cells (some 40) ([.lit (.int .i64 c40_9)] ++ [.sl (cellsL cGSightLetter x37.Letters) (List.length x37.Letters) false])) ∧ st.H 32 = some (.cells (some 123) ([VV.fn (Fn.func 78) [] []])) ∧ st.H 33 = some (.cells (some 117) ([.lit (.int .i64 0)] ++ [.lit (.int .i64 0)])) ∧ st.H 35 = some (.cells (some 117) ([.lit (.int .i64 c40_o0)] ++ [.lit (.int .i64 c40_o1)])) ∧ st.H 36 = some (.cells (some 4) ([.lit (.bool c40_o2)])) ∧ st.H 39 = some (.deferred (some [])) ∧ st.H 40 = some LO39 ∧ st.H (nx40 + 10) = some (.cells (some 27) (cGSightStreet x0_s)) ∧ st.H (nx40 + 12) = some (.cells (some 3) ([.lit (.int .i64 c67_o0)])) ∧ st.H (nx40 + 24) = some (.cells (some 27) (cGSightStreet x0_s)) ∧ st.H (nx40 + 28) = some (.cells (some 108) ([VV.fn (Fn.func 126) [] [.ptr (nx40 + 24) 0]])) ∧ st.H (nx40 + 29) = some (.cells (some 100) ([VV.fn (Fn.func 108) [] [.ptr 27 0, .ptr 28 0]])) ∧ st.H (nx40 + 33) = some (.deferred (some [])) ∧ st.H (nx40 + 34) = some LO65 ∧ st.H (nx40 + 35) = some (.cells (some 100) ([.yl (nx40 + 34)])) ∧ st.H (nx40 + 37) = some (.deferred (some [])) ∧ st.H (nx40 + 38) = some LO66 ∧ st.tm 0 = .yl (nx40 + 38) ∧ st.tm 1 = .ptr (nx40 + 24) 0 ∧ st.tm 7 = .lit (.int .i64 (IntKind.i64.wrap (x0_s.Length + 1))) ∧ st.tm 8 = .lit (.int .i64 c67_8) ∧ K67 (f67 p67 c67_8 c67_o0)) := ⟨_, rfl⟩
    refine loopK mixed (by kernel_rfl) I67 (Int.toNat ((IntKind.i64.wrap (x0_s.Length + 1)) - 0)) (by rw [hI67]; refine ⟨Int.toNat ((IntKind.i64.wrap (x0_s.Length + 1)) - 0), 0, 0, rfl, (by rfl), rfl, rfl, (show nx40 + 43 ≤ nx40 + 43 by omega), ?_, ?_, ?_, ?_, ?_, ?_, ?_, ?_, ?_, ?_, ?_, ?_, ?_, ?_, ?_, ?_, ?_, ?_, ?_, ?_, ?_, ?_, h⟩ <;> first | (simp only [ua, d27, d34, n55, H42, H43, H44, H45, H46, H47, H48, H49, d63, w64, nm, seval] <;> rfl) | rfl) ?_
    rintro m ⟨tm, H, nx67, df⟩ hinv
    rw [hI67] at hinv
    obtain ⟨p67, c67_8, c67_o0, rfl, hi67, hp67, hdf, hn67, H68, H69, H70, H71, H72, H73, H74, H75, H76, H77, H78, H79, H80, H81, H82, H83, H84, H85, e86, e87, e88, e89, h⟩ := hinv
    simp only at hdf hn67 H68 H69 H70 H71 H72 H73 H74 H75 H76 H77 H78 H79 H80 H81 H82 H83 H84 H85 e86 e87 e88 e89
    have n90 := base_ne0 (m := 45) (b := nx67) (by omega)
    have n91 := base_ne (a := nx40) (m := 43) (b := nx67) (by omega)
    subst hdf hf67
    cases p67 with
    | zero =>
     have d92 : (decide (c67_8 < (IntKind.i64.wrap (x0_s.Length + 1)))) = false := cnt_not_lt hp67
     simp only [g_sight_Hang_l1, hs, reduceCtorEq] at h
     replace h := kG67 _ h
     try dsimp only at h
     try simp only [hs] at h
     try simp only [vz, flr, tyf, d27, d34, (ix24 o38), g41, n55, d63, w64, n90, n91, e86, e87, e88, e89, H68, H69, H70, H71, H72, H73, H74, H75, H76, H77, H78, H79, H80, H81, H82, H83, H84, H85, d92, nm, seval]
     refine opd_normal (x := .tup []) (by simp [Tryz.results126, resV, resL]) ?_
     refine rangeEnd_go hLO66 (by simp only [updH_apply, without_apply, n55, n90, n91, H68, H69, H70, H71, H72, H73, H74, H75, H76, H77, H78, H79, H80, H81, H82, H83, H84, H85, nm, seval] <;> rfl) ?_
     intro LX93
     try simp only [vz, flr, tyf, d27, d34, (ix24 o38), g41, n55, d63, w64, n90, n91, H68, H69, H70, H71, H72, H73, H74, H75, H76, H77, H78, H79, H80, H81, H82, H83, H84, H85, d92, nm, seval]
     refine opd_collN (by simp only [updH_apply, without_apply, n55, n90, n91, H68, H69, H70, H71, H72, H73, H74, H75, H76, H77, H78, H79, H80, H81, H82, H83, H84, H85, nm, seval] <;> rfl) ?_
     try simp only [vz, flr, tyf, d27, d34, (ix24 o38), g41, n55, d63, w64, n90, n91, H68, H69, H70, H71, H72, H73, H74, H75, H76, H77, H78, H79, H80, H81, H82, H83, H84, H85, d92, nm, seval]
     refine opd_normal (x := .tup []) (by simp [Tryz.results127, resV, resL]) ?_
     refine rangeEnd_go hLO65 (by simp only [updH_apply, without_apply, n55, n90, n91, H68, H69, H70, H71, H72, H73, H74, H75, H76, H77, H78, H79, H80, H81, H82, H83, H84, H85, nm, seval] <;> rfl) ?_
     intro LX94
     try simp only [vz, flr, tyf, d27, d34, (ix24 o38), g41, n55, d63, w64, n90, n91, H68, H69, H70, H71, H72, H73, H74, H75, H76, H77, H78, H79, H80, H81, H82, H83, H84, H85, d92, nm, seval]
     refine opd_coll (by simp only [updH_apply, without_apply, n55, n90, n91, H68, H69, H70, H71, H72, H73, H74, H75, H76, H77, H78, H79, H80, H81, H82, H83, H84, H85, nm, seval] <;> rfl) ?_
     try simp only [vz, flr, tyf, d27, d34, (ix24 o38), g41, n55, d63, w64, n90, n91, H68, H69, H70, H71, H72, H73, H74, H75, H76, H77, H78, H79, H80, H81, H82, H83, H84, H85, d92, nm, seval]
     refine opd_ret (x := (.lit (.int .i64 c67_o0))) (by first | (simp only [Tryz.results57, resV, resL, resV1, tgt_ptr, tgt_tp, uw, cr, tyf, d27, d34, (ix24 o38), g41, n55, d63, w64, n90, n91, H68, H69, H70, H71, H72, H73, H74, H75, H76, H77, H78, H79, H80, H81, H82, H83, H84, H85, d92, nm, seval] <;> rfl) | rfl) ?_
     try simp only [vz, flr, tyf, d27, d34, (ix24 o38), g41, n55, d63, w64, n90, n91, H68, H69, H70, H71, H72, H73, H74, H75, H76, H77, H78, H79, H80, H81, H82, H83, H84, H85, d92, e50, e51, e52, e53, e54, rg, nm, seval]
     refine yield_open mixed (psl := [10]) hLO39 (by simp only [updH_apply, without_apply, n55, n90, n91, H68, H69, H70, H71, H72, H73, H74, H75, H76, H77, H78, H79, H80, H81, H82, H83, H84, H85, nm, seval] <;> rfl) tmL_length rfl (by kernel_rfl) (by kernel_rfl) ?_
     intro LB95 LD95 hLB95 hLD95
     refine cwp_tmcut (fun tm => tm 3 = .ptr 32 0 ∧ tm 6 = .ptr 35 0 ∧ tm 7 = .ptr 36 0 ∧ tm 10 = .agg ([.lit (.int .i64 c40_9)] ++ [.lit (.int .i64 c67_o0)]) ∧ True) (by refine ⟨?_, ?_, ?_, ?_, trivial⟩ <;> (simp only [round_tm, round_tm0, Tryz.ntmps76, e50, e51, e52, e53, e54, nm, seval] <;> first | rfl | trivial)) ?_
     rintro tm ⟨e96, e97, e98, e99, _⟩
     have b100 := And.intro d27 (And.intro d34 (And.intro g41 (And.intro n55 (And.intro d63 (And.intro w64 (And.intro n90 (And.intro n91 (And.intro H68 (And.intro H69 (And.intro H70 (And.intro H71 (And.intro H72 (And.intro H73 (And.intro H74 (And.intro H75 (And.intro H76 (And.intro H77 (And.intro H78 (And.intro H79 (And.intro H80 (And.intro H81 (And.intro H82 (And.intro H83 (And.intro H84 (And.intro H85 d92)))))))))))))))))))))))))
     try simp only [vz, flr, tyf, b100, (ix24 o38), e96, e97, e98, e99, nm, seval]
     rw [rndAs_normal (by simp only [updH_apply, without_apply, b100, nm, seval] <;> rfl)]
     cases d101 : (c40_o2)
     ·simp only [d101, hs] at h
      try simp only [vz, flr, tyf, b100, (ix24 o38), e96, e97, e98, e99, d101, nm, seval]
      rw [rnd_normal (by simp only [updH_apply, without_apply, b100, nm, seval] <;> rfl)]
      simp only [vz, flr, tyf, b100, (ix24 o38), d101, e50, e51, e52, e53, e54, nm, seval]
      exact ⟨p40, Nat.lt_succ_self _, by rw [hI40]; refine ⟨p40, c40_9 + 1, c40_9, c67_o0, true, c40_9, rfl, cnt_lo hi40, cnt_next hp40, rfl, (show 45 ≤ nx67 + 24 by omega), ?_, ?_, ?_, ?_, ?_, ?_, ?_, ?_, e50, e51, e52, e53, ?_, h⟩ <;> first | (simp only [ua, b100, d101, e50, e51, e52, e53, e54, nm, seval] <;> rfl) | rfl⟩
     simp only [d101, hs] at h
     rcases o103 : (g_sight_Hang_1 (Gsighthanging.mk c40_9 c67_o0) (Gsighthanging.mk c40_o0 c40_o1)) with _ | r102
     ·simp only [o103, hs] at h
      exact absurd h kN40
     simp only [o103, hs] at h
     simp only [vz, flr, tyf, b100, (ix24 o38), e96, e97, e98, e99, d101, nm, seval]
     refine ktree (args0 := [.agg (cGsighthanging (Gsighthanging.mk c40_9 c67_o0)), .agg (cGsighthanging (Gsighthanging.mk c40_o0 c40_o1))]) (by first | (simp only [nrm, tynrm] <;> rfl) | rfl) (by simp only [tre, tytre, Bool.and_self]) (g_sight_Hang_1_ok _ _ _ o103) ?_
     refine fin_cut (fun tm => tm 6 = .ptr 35 0 ∧ tm 7 = .ptr 36 0 ∧ tm 8 = .ptr (nx67 + 9) 0 ∧ tm 13 = .lit (.bool false) ∧ tm 17 = .lit (.bool r102) ∧ True) (by refine ⟨e97, e98, ?_, ?_, ?_, trivial⟩ <;> first | (simp only [ua, b100, e96, e97, e98, e99, d101, nm, seval] <;> rfl) | rfl) ?_
     rintro tm ⟨e104, e105, e106, e107, e108, _⟩
     cases d109 : (r102)
     ·simp only [d109, hs] at h
      try simp only [vz, flr, tyf, b100, (ix24 o38), d101, e104, e105, e106, e107, e108, d109, nm, seval]
      rw [rnd_normal (by simp only [updH_apply, without_apply, b100, nm, seval] <;> rfl)]
      simp only [vz, flr, tyf, b100, (ix24 o38), d101, d109, e50, e51, e52, e53, e54, nm, seval]
      exact ⟨p40, Nat.lt_succ_self _, by rw [hI40]; refine ⟨p40, c40_9 + 1, c40_o0, c40_o1, true, c40_9, rfl, cnt_lo hi40, cnt_next hp40, rfl, (show 45 ≤ nx67 + 21 by omega), ?_, ?_, ?_, ?_, ?_, ?_, ?_, ?_, e50, e51, e52, e53, ?_, h⟩ <;> first | (simp only [ua, b100, d101, d109, e50, e51, e52, e53, e54, nm, seval] <;> rfl) | rfl⟩
     simp only [d109, hs] at h
     try simp only [vz, flr, tyf, b100, (ix24 o38), d101, e104, e105, e106, e107, e108, d109, nm, seval]
     rw [rnd_normal (by simp only [updH_apply, without_apply, b100, nm, seval] <;> rfl)]
     simp only [vz, flr, tyf, b100, (ix24 o38), d101, d109, e50, e51, e52, e53, e54, nm, seval]
     exact ⟨p40, Nat.lt_succ_self _, by rw [hI40]; refine ⟨p40, c40_9 + 1, c40_9, c67_o0, true, c40_9, rfl, cnt_lo hi40, cnt_next hp40, rfl, (show 45 ≤ nx67 + 24 by omega), ?_, ?_, ?_, ?_, ?_, ?_, ?_, ?_, e50, e51, e52, e53, ?_, h⟩ <;> first | (simp only [ua, b100, d101, d109, e50, e51, e52, e53, e54, nm, seval] <;> rfl) | rfl⟩
    | succ p67 =>
     have d110 : (decide (c67_8 < (IntKind.i64.wrap (x0_s.Length + 1)))) = true := cnt_lt hp67
     have w111 := cnt_wrap hi67 hp67 g41
     simp only [g_sight_Hang_l1, hs, reduceCtorEq] at h
     cases g113 : (boundOk x0_s.Width)
     ·simp only [g113, hs] at h
      exact absurd h kN67
     simp only [g113, hs] at h
     simp only [vz, flr, tyf, d27, d34, (ix24 o38), g41, n55, d63, w64, n90, n91, e86, e87, e88, e89, H68, H69, H70, H71, H72, H73, H74, H75, H76, H77, H78, H79, H80, H81, H82, H83, H84, H85, d110, w111, g113, nm, seval]
     obtain ⟨K112, h, kR112, kG112, kB112, kN112⟩ := lbind_intro h kN67
     obtain ⟨f112, hf112, h⟩ := call3 h
     obtain ⟨I112, hI112⟩ : ∃ I : Nat → St → Prop, I = (fun m st => ∃ (p112 : Nat) (c112_13 : Int) (c112_o0 : Int), p112 = m ∧ loOk c112_13 = true ∧ Int.toNat (x0_s.Width - c112_13) = p112 ∧ st.df = [] ∧ nx67 + 6 ≤ st.nx ∧ st.H 27 = some (.cells (some 27) (cGSightStreet x0_s)) ∧ st.H 28 = some (.cells (some 40) ([.lit (.int .i64 c40_9)] ++ [.sl (cellsL cGSightLetter x37.Letters) (List.length x37.Letters) false])) ∧ st.H 32 = some (.cells (some 123) ([VV.fn (Fn.func 78) [] []])) ∧ st.H 33 = some (.cells (some 117) ([.lit (.int .i64 0)] ++ [.lit (.int .i64 0)])) ∧ st.H 35 = some (.cells (some 117) ([.lit (.int .i64 c40_o0)] ++ [.lit (.int .i64 c40_o1)])) ∧ st.H 36 = some (.cells (some 4) ([.lit (.bool c40_o2)])) ∧ st.H 39 = some (.deferred (some [])) ∧ st.H 40 = some LO39 ∧ st.H (nx40 + 10) = some (.cells (some 27) (cGSightStreet x0_s)) ∧ st.H (nx40 + 12) = some (.cells (some 3) ([.lit (.int .i64 c112_o0)])) ∧ st.H (nx40 + 24) = some (.cells (some 27) (cGSightStreet x0_s)) ∧ st.H (nx40 + 28) = some (.cells (some 108) ([VV.fn (Fn.func 126) [] [.ptr (nx40 + 24) 0]])) ∧ st.H (nx40 + 29) = some (.cells (some 100) ([VV.fn (Fn.func 108) [] [.ptr 27 0, .ptr 28 0]])) ∧ st.H (nx40 + 33) = some (.deferred (some [])) ∧ st.H (nx40 + 34) = some LO65 ∧ st.H (nx40 + 35) = some (.cells (some 100) ([.yl (nx40 + 34)])) ∧ st.H (nx40 + 37) = some (.deferred (some [])) ∧ st.H (nx40 + 38) = some LO66 ∧ st.tm 0 = .yl (nx40 + 38) ∧ st.tm 1 = .ptr (nx40 + 24) 0 ∧ st.tm 3 = .lit (.int .i64 c67_8) ∧ st.tm 7 = .lit (.int .i64 (IntKind.i64.wrap (x0_s.Length + 1))) ∧ st.tm 8 = .lit (.int .i64 c67_8) ∧ st.tm 12 = .lit (.int .i64 x0_s.Width) ∧ st.tm 13 = .lit (.int .i64 c112_13) ∧ K112 (f112 p112 c112_13 c112_o0)) := ⟨_, rfl⟩
     refine loopK mixed (by kernel_rfl) I112 (Int.toNat (x0_s.Width - 0)) (by rw [hI112]; refine ⟨Int.toNat (x0_s.Width - 0), 0, c67_o0, rfl, (by rfl), rfl, rfl, (show nx67 + 6 ≤ nx67 + 6 by omega), ?_, ?_, ?_, ?_, ?_, ?_, ?_, ?_, ?_, ?_, ?_, ?_, ?_, ?_, ?_, ?_, ?_, ?_, e86, e87, ?_, e88, e89, ?_, ?_, h⟩ <;> first | (simp only [ua, d27, d34, n55, d63, w64, n90, n91, e86, e87, e88, e89, H68, H69, H70, H71, H72, H73, H74, H75, H76, H77, H78, H79, H80, H81, H82, H83, H84, H85, d110, w111, nm, seval] <;> rfl) | rfl) ?_
     rintro m ⟨tm, H, nx112, df⟩ hinv
     rw [hI112] at hinv
     obtain ⟨p112, c112_13, c112_o0, rfl, hi112, hp112, hdf, hn112, H114, H115, H116, H117, H118, H119, H120, H121, H122, H123, H124, H125, H126, H127, H128, H129, H130, H131, e132, e133, e134, e135, e136, e137, e138, h⟩ := hinv
     simp only at hdf hn112 H114 H115 H116 H117 H118 H119 H120 H121 H122 H123 H124 H125 H126 H127 H128 H129 H130 H131 e132 e133 e134 e135 e136 e137 e138
     have n139 := base_ne0 (m := 45) (b := nx112) (by omega)
     have n140 := base_ne (a := nx40) (m := 43) (b := nx112) (by omega)
     have n141 := base_ne (a := nx67) (m := 6) (b := nx112) (by omega)
     subst hdf hf112
     cases p112 with
     | zero =>
      have d142 : (decide (c112_13 < x0_s.Width)) = false := cnt_not_lt hp112
      simp only [g_sight_Hang_l2, hs, reduceCtorEq] at h
      replace h := kG112 _ h
      try dsimp only at h
      try simp only [hs] at h
      simp only [vz, flr, tyf, d27, d34, (ix24 o38), g41, n55, d63, w64, n90, n91, d110, w111, g113, n139, n140, n141, e132, e133, e134, e135, e136, e137, e138, H114, H115, H116, H117, H118, H119, H120, H121, H122, H123, H124, H125, H126, H127, H128, H129, H130, H131, d142, nm, seval]
      exact ⟨p67, Nat.lt_succ_self _, by rw [hI67]; refine ⟨p67, c67_8 + 1, c112_o0, rfl, cnt_lo hi67, cnt_next hp67, rfl, (show nx40 + 43 ≤ nx112 + 3 by omega), ?_, ?_, ?_, ?_, ?_, ?_, ?_, ?_, ?_, ?_, ?_, ?_, ?_, ?_, ?_, ?_, ?_, ?_, e132, e133, e135, ?_, h⟩ <;> first | (simp only [ua, d27, d34, n55, d63, w64, n90, n91, d110, w111, n139, n140, n141, e132, e133, e134, e135, e136, e137, e138, H114, H115, H116, H117, H118, H119, H120, H121, H122, H123, H124, H125, H126, H127, H128, H129, H130, H131, d142, nm, seval] <;> rfl) | rfl⟩
     | succ p112 =>
      have d143 : (decide (c112_13 < x0_s.Width)) = true := cnt_lt hp112
      have w144 := cnt_wrap hi112 hp112 g113
      simp only [g_sight_Hang_l2, hs, reduceCtorEq] at h
      try simp only [vz, flr, tyf, d27, d34, (ix24 o38), g41, n55, d63, w64, n90, n91, d110, w111, g113, n139, n140, n141, e132, e133, e134, e135, e136, e137, e138, H114, H115, H116, H117, H118, H119, H120, H121, H122, H123, H124, H125, H126, H127, H128, H129, H130, H131, d143, w144, rg, nm, seval]
      refine yield_open mixed (psl := [6]) hLO66 (by simp only [updH_apply, without_apply, n55, n90, n91, n139, n140, n141, H114, H115, H116, H117, H118, H119, H120, H121, H122, H123, H124, H125, H126, H127, H128, H129, H130, H131, nm, seval] <;> rfl) tmL_length rfl (by kernel_rfl) (by kernel_rfl) ?_
      intro LB145 LD145 hLB145 hLD145
      refine cwp_tmcut (fun tm => tm 2 = .ptr (nx40 + 29) 0 ∧ tm 3 = .ptr (nx40 + 35) 0 ∧ tm 6 = .agg ([.lit (.int .i64 c67_8)] ++ [.lit (.int .i64 (c112_13 + 1))]) ∧ True) (by refine ⟨?_, ?_, ?_, trivial⟩ <;> (simp only [round_tm, round_tm0, Tryz.ntmps127, e132, e133, e134, e135, e136, e137, e138, nm, seval] <;> first | rfl | trivial)) ?_
      rintro tm ⟨e146, e147, e148, _⟩
      have b149 := And.intro d27 (And.intro d34 (And.intro g41 (And.intro n55 (And.intro d63 (And.intro w64 (And.intro n90 (And.intro n91 (And.intro d110 (And.intro w111 (And.intro g113 (And.intro n139 (And.intro n140 (And.intro n141 (And.intro H114 (And.intro H115 (And.intro H116 (And.intro H117 (And.intro H118 (And.intro H119 (And.intro H120 (And.intro H121 (And.intro H122 (And.intro H123 (And.intro H124 (And.intro H125 (And.intro H126 (And.intro H127 (And.intro H128 (And.intro H129 (And.intro H130 (And.intro H131 (And.intro d143 w144))))))))))))))))))))))))))))))))
      try simp only [vz, flr, tyf, b149, (ix24 o38), e146, e147, e148, nm, seval]
      rw [rndAs_normal (by simp only [updH_apply, without_apply, b149, nm, seval] <;> rfl)]
      try simp only [vz, flr, tyf, b149, (ix24 o38), e146, e147, e148, nm, seval]
      refine kopen ?_
      rw [openK_eq]
      refine VOpen.run mixed Tryz.call108 Tryz.func108 rfl (by simp [Tryz.ntmps108]; kernel_rfl) ?_
      rcases o151 : (g_sight_isSurelyRead x0_s (GSightBoard.mk c40_9 x37.Letters) (GSightPlace.mk c67_8 (c112_13 + 1))) with _ | r150
      ·simp only [o151, hs] at h
       exact absurd h kN112
      simp only [o151, hs] at h
      simp only [vz, flr, tyf, b149, (ix24 o38), nm, seval]
      refine ktree (args0 := [.agg (cGSightStreet x0_s), .agg (cGSightBoard (GSightBoard.mk c40_9 x37.Letters)), .agg (cGSightPlace (GSightPlace.mk c67_8 (c112_13 + 1)))]) (by first | (simp only [nrm, tynrm] <;> rfl) | rfl) (by simp only [tre, tytre, Bool.and_self]) (g_sight_isSurelyRead_ok _ _ _ _ o151) ?_
      refine fin_cut (fun tm => tm 8 = .lit (.bool r150) ∧ True) (by refine ⟨?_, trivial⟩ <;> first | (simp only [ua, b149, nm, seval] <;> rfl) | rfl) ?_
      rintro tm ⟨e152, _⟩
      try simp only [vz, flr, tyf, b149, (ix24 o38), e152, nm, seval]
      refine opd_ret (x := (.lit (.bool r150))) (by first | (simp only [Tryz.results108, resV, resL, resV1, tgt_ptr, tgt_tp, uw, cr, tyf, b149, (ix24 o38), nm, seval] <;> rfl) | rfl) ?_
      cases d153 : (r150)
      ·simp only [d153, hs] at h
       try simp only [vz, flr, tyf, b149, (ix24 o38), e146, e147, e148, d153, nm, seval]
       rw [rnd_normal (by simp only [updH_apply, without_apply, b149, nm, seval] <;> rfl)]
       simp only [vz, flr, tyf, b149, (ix24 o38), d153, e132, e133, e134, e135, e136, e137, e138, nm, seval]
       exact ⟨p112, Nat.lt_succ_self _, by rw [hI112]; refine ⟨p112, c112_13 + 1, c112_o0, rfl, cnt_lo hi112, cnt_next hp112, rfl, (show nx67 + 6 ≤ nx112 + 30 by omega), ?_, ?_, ?_, ?_, ?_, ?_, ?_, ?_, ?_, ?_, ?_, ?_, ?_, ?_, ?_, ?_, ?_, ?_, e132, e133, e134, e135, e136, e137, ?_, h⟩ <;> first | (simp only [ua, b149, d153, e132, e133, e134, e135, e136, e137, e138, nm, seval] <;> rfl) | rfl⟩
      simp only [d153, hs] at h
      try simp only [vz, flr, tyf, b149, (ix24 o38), e146, e147, e148, d153, rg, nm, seval]
      refine yield_open mixed (psl := [9]) hLO65 (by simp only [updH_apply, without_apply, b149, nm, seval] <;> rfl) tmL_length rfl (by kernel_rfl) (by kernel_rfl) ?_
      intro LB154 LD154 hLB154 hLD154
      refine cwp_tmcut (fun tm => tm 5 = .ptr (nx40 + 12) 0 ∧ True) (by refine ⟨?_, trivial⟩ <;> (simp only [round_tm, round_tm0, Tryz.ntmps57, e146, e147, e148, nm, seval] <;> first | rfl | trivial)) ?_
      rintro tm ⟨e155, _⟩
      try simp only [vz, flr, tyf, b149, (ix24 o38), d153, e155, nm, seval]
      rw [rndAs_normal (by simp only [updH_apply, without_apply, b149, nm, seval] <;> rfl)]
      try simp only [vz, flr, tyf, b149, (ix24 o38), d153, e155, nm, seval]
      rw [rnd_normal (by simp only [updH_apply, without_apply, b149, nm, seval] <;> rfl)]
      try simp only [vz, flr, tyf, b149, (ix24 o38), d153, e146, e147, e148, nm, seval]
      rw [rnd_normal (by simp only [updH_apply, without_apply, b149, nm, seval] <;> rfl)]
      simp only [vz, flr, tyf, b149, (ix24 o38), d153, e132, e133, e134, e135, e136, e137, e138, nm, seval]
      exact ⟨p112, Nat.lt_succ_self _, by rw [hI112]; refine ⟨p112, c112_13 + 1, IntKind.i64.wrap (c112_o0 + 1), rfl, cnt_lo hi112, cnt_next hp112, rfl, (show nx67 + 6 ≤ nx112 + 33 by omega), ?_, ?_, ?_, ?_, ?_, ?_, ?_, ?_, ?_, ?_, ?_, ?_, ?_, ?_, ?_, ?_, ?_, ?_, e132, e133, e134, e135, e136, e137, ?_, h⟩ <;> first | (simp only [ua, b149, d153, e132, e133, e134, e135, e136, e137, e138, nm, seval] <;> rfl) | rfl⟩
  refine flD_go rfl ?_
  try simp only [vz, flr, tyf, d27, d34, (ix24 o38), e35, e36, nm, seval]
  refine ⟨?_, ?_⟩
  ·try simp only [traceR_cons, traceR_nil, hitK_quiet, hitK_nil, and_true, true_and]
   repeat' (first | exact trivial | refine And.intro ?_ ?_ | rw [hitK_quiet] | rw [hitK_cons] | exact Or.inl (by decide +kernel) | exact Or.inl (by dsimp only; decide +kernel) | (refine Or.inr ⟨?_, ?_⟩ <;> simp; done) | (refine Or.inr ⟨?_, ?_⟩ <;> simp <;> omega) | (refine Or.inr ⟨?_, ?_⟩ <;> simp [VEff.wr] <;> omega))
  refine flB_go rfl ?_
  try simp only [vz, flr, tyf, d27, d34, (ix24 o38), e35, e36, nm, seval]
  refine kopen ?_
  rw [openK_eq]
  refine VOpen.run mixed Tryz.call76 Tryz.func76 rfl (by simp [Tryz.ntmps76]; kernel_rfl) ?_
  try simp only [vz, flr, tyf, d27, d34, (ix24 o38), nm, seval]
  refine range_open (f := 107) (first := []) (captured := [.ptr 27 0, .ptr 28 0]) (by first | (simp only [ev_tmp, ev_func, d27, d34, (ix24 o38), upd_apply, nm, seval] <;> rfl) | rfl) ?_
  intro LO156 hLO156
  refine VOpen.run mixed Tryz.call107 Tryz.func107 rfl (by simp [Tryz.ntmps107]; kernel_rfl) ?_
  cases g158 : (boundOk (IntKind.i64.wrap (x0_s.Length + 1)))
  ·simp only [g158, hs] at h
   exact absurd h kN
  simp only [g158, hs] at h
  simp only [vz, flr, tyf, d27, d34, (ix24 o38), g158, nm, seval]
  obtain ⟨K157, h, kR157, kG157, kB157, kN157⟩ := lbind_intro h kN
  obtain ⟨f157, hf157, h⟩ := call6 h
  obtain ⟨I157, hI157⟩ : ∃ I : Nat → St → Prop, I = (fun m st => ∃ (p157 : Nat) (c157_9 : Int) (c157_o0 : Int) (c157_o1 : Int) (c157_o2 : Bool) (c157_o3 : Int), p157 = m ∧ loOk c157_9 = true ∧ Int.toNat ((IntKind.i64.wrap (x0_s.Length + 1)) - c157_9) = p157 ∧ st.df = [] ∧ 45 ≤ st.nx ∧ st.H 27 = some (.cells (some 27) (cGSightStreet x0_s)) ∧ st.H 28 = some (.cells (some 40) ([.lit (.int .i64 c157_o3)] ++ [.sl (cellsL cGSightLetter x37.Letters) (List.length x37.Letters) false])) ∧ st.H 24 = some (.cells (some 117) ([.lit (.int .i64 0)] ++ [.lit (.int .i64 0)])) ∧ st.H 32 = some (.cells (some 123) ([VV.fn (Fn.func 78) [] []])) ∧ st.H 33 = some (.cells (some 117) ([.lit (.int .i64 0)] ++ [.lit (.int .i64 0)])) ∧ st.H 35 = some (.cells (some 117) ([.lit (.int .i64 c157_o0)] ++ [.lit (.int .i64 c157_o1)])) ∧ st.H 36 = some (.cells (some 4) ([.lit (.bool c157_o2)])) ∧ st.H 39 = some (.deferred (some [])) ∧ st.H 40 = some LO156 ∧ st.tm 0 = .yl 40 ∧ st.tm 1 = .ptr 27 0 ∧ st.tm 2 = .ptr 28 0 ∧ st.tm 8 = .lit (.int .i64 (IntKind.i64.wrap (x0_s.Length + 1))) ∧ st.tm 9 = .lit (.int .i64 c157_9) ∧ K157 (f157 p157 c157_9 c157_o0 c157_o1 c157_o2 c157_o3)) := ⟨_, rfl⟩
  refine loopK mixed (by kernel_rfl) I157 (Int.toNat ((IntKind.i64.wrap (x0_s.Length + 1)) - 0)) (by rw [hI157]; refine ⟨Int.toNat ((IntKind.i64.wrap (x0_s.Length + 1)) - 0), 0, 0, 0, false, x37.At, rfl, (by rfl), rfl, rfl, (show 45 ≤ 45 by omega), ?_, ?_, ?_, ?_, ?_, ?_, ?_, ?_, ?_, ?_, ?_, ?_, ?_, ?_, h⟩ <;> first | (simp only [ua, d27, d34, nm, seval] <;> rfl) | rfl) ?_
  rintro m ⟨tm, H, nx157, df⟩ hinv
  rw [hI157] at hinv
  obtain ⟨p157, c157_9, c157_o0, c157_o1, c157_o2, c157_o3, rfl, hi157, hp157, hdf, hn157, H159, H160, H161, H162, H163, H164, H165, H166, H167, e168, e169, e170, e171, e172, h⟩ := hinv
  simp only at hdf hn157 H159 H160 H161 H162 H163 H164 H165 H166 H167 e168 e169 e170 e171 e172
  have n173 := base_ne0 (m := 45) (b := nx157) (by omega)
  subst hdf hf157
  cases p157 with
  | zero =>
   have d174 : (decide (c157_9 < (IntKind.i64.wrap (x0_s.Length + 1)))) = false := cnt_not_lt hp157
   simp only [g_sight_Hang_l0, hs, reduceCtorEq] at h
   replace h := kG157 _ h
   try dsimp only at h
   try simp only [hs] at h
   try simp only [vz, flr, tyf, d27, d34, (ix24 o38), g158, n173, e168, e169, e170, e171, e172, H159, H160, H161, H162, H163, H164, H165, H166, H167, d174, nm, seval]
   refine opd_normal (x := .tup []) (by simp [Tryz.results107, resV, resL]) ?_
   refine rangeEnd_go hLO156 (by simp only [updH_apply, without_apply, n173, H159, H160, H161, H162, H163, H164, H165, H166, H167, nm, seval] <;> rfl) ?_
   intro LX175
   simp only [vz, flr, tyf, d27, d34, (ix24 o38), g158, n173, H159, H160, H161, H162, H163, H164, H165, H166, H167, d174, nm, seval]
   refine cwp_drawTF (fun tm => tm 4 = .ptr 33 0 ∧ tm 6 = .ptr 35 0 ∧ tm 7 = .ptr 36 0 ∧ True) (by refine ⟨?_, ?_, ?_, trivial⟩ <;> first | (simp only [ua, d27, d34, n173, H159, H160, H161, H162, H163, H164, H165, H166, H167, d174, nm, seval] <;> rfl) | rfl) ?_
   rintro tm ⟨e176, e177, e178, _⟩
   have b179 := And.intro d27 (And.intro d34 (And.intro g158 (And.intro n173 (And.intro H159 (And.intro H160 (And.intro H161 (And.intro H162 (And.intro H163 (And.intro H164 (And.intro H165 (And.intro H166 (And.intro H167 d174))))))))))))
   simp only [vz, flr, tyf, b179, (ix24 o38), e176, e177, e178, nm, seval]
   refine drawK_nil ⟨?_, ?_⟩
   ·simp only [traceR_cons, traceR_nil, hitK_quiet, hitK_nil, and_true, true_and]
    repeat' (first | exact trivial | refine And.intro ?_ ?_ | rw [hitK_quiet] | rw [hitK_cons] | exact Or.inl (by decide +kernel) | exact Or.inl (by dsimp only; decide +kernel) | (refine Or.inr ⟨?_, ?_⟩ <;> simp; done) | (refine Or.inr ⟨?_, ?_⟩ <;> simp <;> omega) | (refine Or.inr ⟨?_, ?_⟩ <;> simp [VEff.wr] <;> omega))
   try simp only [vz, flr, tyf, b179, (ix24 o38), e176, e177, e178, nm, seval]
   refine opd_coll (by simp only [updH_apply, without_apply, b179, nm, seval] <;> rfl) ?_
   try simp only [vz, flr, tyf, b179, (ix24 o38), e176, e177, e178, nm, seval]
   refine opd_ret (x := (.tup [.agg ([.lit (.int .i64 c157_o0)] ++ [.lit (.int .i64 c157_o1)]), .lit (.bool c157_o2)])) (by first | (simp only [Tryz.results76, resV, resL, resV1, tgt_ptr, tgt_tp, uw, cr, tyf, b179, (ix24 o38), e176, e177, e178, nm, seval] <;> rfl) | rfl) ?_
   try simp only [vz, flr, tyf, b179, (ix24 o38), e35, e36, nm, seval]
   refine flGo_lastE ?_
   simp only [vz, flr, tyf, b179, (ix24 o38), e35, e36, nm, seval]
   refine flR_end ⟨?_, ?_⟩
   ·try simp only [traceR_cons, traceR_nil, hitK_quiet, hitK_nil, and_true, true_and]
    repeat' (first | exact trivial | refine And.intro ?_ ?_ | rw [hitK_quiet] | rw [hitK_cons] | exact Or.inl (by decide +kernel) | exact Or.inl (by dsimp only; decide +kernel) | (refine Or.inr ⟨?_, ?_⟩ <;> simp; done) | (refine Or.inr ⟨?_, ?_⟩ <;> simp <;> omega) | (refine Or.inr ⟨?_, ?_⟩ <;> simp [VEff.wr] <;> omega))
   try simp only [vz, flr, tyf, b179, (ix24 o38), e35, e36, nm, seval]
   refine cwp_drwQF (fun tm => tm 7 = .ptr 24 0 ∧ True) (by refine ⟨?_, trivial⟩ <;> first | (simp only [ua, b179, e35, e36, nm, seval] <;> rfl) | rfl) ?_
   rintro tm ⟨e180, _⟩
   try simp only [vz, flr, tyf, b179, (ix24 o38), e180, nm, seval]
   refine opd_ret (x := (.tup [.lit (.int .i64 c157_o0), .lit (.int .i64 c157_o1), .lit (.int .i64 0)])) (by first | (simp only [Tryz.results34, resV, resL, resV1, tgt_ptr, tgt_tp, uw, cr, tyf, b179, (ix24 o38), nm, seval] <;> rfl) | rfl) ?_
   obtain rfl := kF _ h
   refine rr_tree ?_ ?_
   ·simp only [tre, tytre, Bool.and_self]
   ·first | (simp only [outV, uw, showV_ref, cr, tyf, nrm, tynrm, b179, (ix24 o38), e180, nm, seval] <;> rfl) | rfl
  | succ p157 =>
   have d181 : (decide (c157_9 < (IntKind.i64.wrap (x0_s.Length + 1)))) = true := cnt_lt hp157
   have w182 := cnt_wrap hi157 hp157 g158
   simp only [g_sight_Hang_l0, hs, reduceCtorEq] at h
   try simp only [vz, flr, tyf, d27, d34, (ix24 o38), g158, n173, e168, e169, e170, e171, e172, H159, H160, H161, H162, H163, H164, H165, H166, H167, d181, w182, nm, seval]
   refine kopen ?_
   rw [openK_eq]
   refine VOpen.run mixed Tryz.call57 Tryz.func57 rfl (by simp [Tryz.ntmps57]; kernel_rfl) ?_
   try simp only [vz, flr, tyf, d27, d34, (ix24 o38), g158, n173, H159, H160, H161, H162, H163, H164, H165, H166, H167, d181, w182, nm, seval]
   refine kopen ?_
   rw [openK_eq]
   refine VOpen.run mixed Tryz.call64 Tryz.func64 rfl (by simp [Tryz.ntmps64]; kernel_rfl) ?_
   try simp only [vz, flr, tyf, d27, d34, (ix24 o38), g158, n173, H159, H160, H161, H162, H163, H164, H165, H166, H167, d181, w182, nm, seval]
   refine kopen ?_
   rw [openK_eq]
   refine VOpen.run mixed Tryz.call98 Tryz.func98 rfl (by simp [Tryz.ntmps98]; kernel_rfl) ?_
   try simp only [vz, flr, tyf, d27, d34, (ix24 o38), g158, n173, H159, H160, H161, H162, H163, H164, H165, H166, H167, d181, w182, nm, seval]
   refine opd_ret (x := (VV.fn (Fn.func 126) [] [.ptr (nx157 + 24) 0])) (by first | (simp only [Tryz.results98, resV, resL, resV1, tgt_ptr, tgt_tp, uw, cr, tyf, d27, d34, (ix24 o38), g158, n173, H159, H160, H161, H162, H163, H164, H165, H166, H167, d181, w182, nm, seval] <;> rfl) | rfl) ?_
   try simp only [vz, flr, tyf, d27, d34, (ix24 o38), g158, n173, H159, H160, H161, H162, H163, H164, H165, H166, H167, d181, w182, nm, seval]
   refine kopen ?_
   rw [openK_eq]
   refine VOpen.run mixed Tryz.call100 Tryz.func100 rfl (by simp [Tryz.ntmps100]; kernel_rfl) ?_
   try simp only [vz, flr, tyf, d27, d34, (ix24 o38), g158, n173, H159, H160, H161, H162, H163, H164, H165, H166, H167, d181, w182, nm, seval]
   refine opd_ret (x := (VV.fn (Fn.func 127) [] [.ptr (nx157 + 28) 0, .ptr (nx157 + 29) 0])) (by first | (simp only [Tryz.results100, resV, resL, resV1, tgt_ptr, tgt_tp, uw, cr, tyf, d27, d34, (ix24 o38), g158, n173, H159, H160, H161, H162, H163, H164, H165, H166, H167, d181, w182, nm, seval] <;> rfl) | rfl) ?_
   try simp only [vz, flr, tyf, d27, d34, (ix24 o38), g158, n173, H159, H160, H161, H162, H163, H164, H165, H166, H167, d181, w182, nm, seval]
   refine opd_ret (x := (VV.fn (Fn.func 127) [] [.ptr (nx157 + 28) 0, .ptr (nx157 + 29) 0])) (by first | (simp only [Tryz.results64, resV, resL, resV1, tgt_ptr, tgt_tp, uw, cr, tyf, d27, d34, (ix24 o38), g158, n173, H159, H160, H161, H162, H163, H164, H165, H166, H167, d181, w182, nm, seval] <;> rfl) | rfl) ?_
   try simp only [vz, flr, tyf, d27, d34, (ix24 o38), g158, n173, H159, H160, H161, H162, H163, H164, H165, H166, H167, d181, w182, nm, seval]
   refine range_open (f := 127) (first := []) (captured := [.ptr (nx157 + 28) 0, .ptr (nx157 + 29) 0]) (by first | (simp only [ev_tmp, ev_func, d27, d34, (ix24 o38), g158, n173, H159, H160, H161, H162, H163, H164, H165, H166, H167, d181, w182, upd_apply, nm, seval] <;> rfl) | rfl) ?_
   intro LO183 hLO183
   refine VOpen.run mixed Tryz.call127 Tryz.func127 rfl (by simp [Tryz.ntmps127]; kernel_rfl) ?_
   try simp only [vz, flr, tyf, d27, d34, (ix24 o38), g158, n173, H159, H160, H161, H162, H163, H164, H165, H166, H167, d181, w182, nm, seval]
   refine range_open (f := 126) (first := []) (captured := [.ptr (nx157 + 24) 0]) (by first | (simp only [ev_tmp, ev_func, d27, d34, (ix24 o38), g158, n173, H159, H160, H161, H162, H163, H164, H165, H166, H167, d181, w182, upd_apply, nm, seval] <;> rfl) | rfl) ?_
   intro LO184 hLO184
   refine VOpen.run mixed Tryz.call126 Tryz.func126 rfl (by simp [Tryz.ntmps126]; kernel_rfl) ?_
   simp only [vz, flr, tyf, d27, d34, (ix24 o38), g158, n173, H159, H160, H161, H162, H163, H164, H165, H166, H167, d181, w182, nm, seval]
   obtain ⟨K185, h, kR185, kG185, kB185, kN185⟩ := lbind_intro h kN157
   obtain ⟨f185, hf185, h⟩ := call3 h
   obtain ⟨I185, hI185⟩ : ∃ I : Nat → St → Prop, I = (fun m st => ∃ (p185 : Nat) (c185_8 : Int) (c185_o0 : Int), p185 = m ∧ loOk c185_8 = true ∧ Int.toNat ((IntKind.i64.wrap (x0_s.Length + 1)) - c185_8) = p185 ∧ st.df = [] ∧ nx157 + 43 ≤ st.nx ∧ st.H 27 = some (.cells (some 27) (cGSightStreet x0_s)) ∧ st.H 28 = some (.cells (some 40) ([.lit (.int .i64 c157_9)] ++ [.sl (cellsL cGSightLetter x37.Letters) (List.length x37.Letters) false])) ∧ st.H 24 = some (.cells (some 117) ([.lit (.int .i64 0)] ++ [.lit (.int .i64 0)])) ∧ st.H 32 = some (.cells (some 123) ([VV.fn (Fn.func 78) [] []])) ∧ st.H 33 = some (.cells (some 117) ([.lit (.int .i64 0)] ++ [.lit (.int .i64 0)])) ∧ st.H 35 = some (.cells (some 117) ([.lit (.int .i64 c157_o0)] ++ [.lit (.int .i64 c157_o1)])) ∧ st.H 36 = some (.cells (some 4) ([.lit (.bool c157_o2)])) ∧ st.H 39 = some (.deferred (some [])) ∧ st.H 40 = some LO156 ∧ st.H (nx157 + 10) = some (.cells (some 27) (cGSightStreet x0_s)) ∧ st.H (nx157 + 12) = some (.cells (some 3) ([.lit (.int .i64 c185_o0)])) ∧ st.H (nx157 + 24) = some (.cells (some 27) (cGSightStreet x0_s)) ∧ st.H (nx157 + 28) = some (.cells (some 108) ([VV.fn (Fn.func 126) [] [.ptr (nx157 + 24) 0]])) ∧ st.H (nx157 + 29) = some (.cells (some 100) ([VV.fn (Fn.func 108) [] [.ptr 27 0, .ptr 28 0]])) ∧ st.H (nx157 + 33) = some (.deferred (some [])) ∧ st.H (nx157 + 34) = some LO183 ∧ st.H (nx157 + 35) = some (.cells (some 100) ([.yl (nx157 + 34)])) ∧ st.H (nx157 + 37) = some (.deferred (some [])) ∧ st.H (nx157 + 38) = some LO184 ∧ st.tm 0 = .yl (nx157 + 38) ∧ st.tm 1 = .ptr (nx157 + 24) 0 ∧ st.tm 7 = .lit (.int .i64 (IntKind.i64.wrap (x0_s.Length + 1))) ∧ st.tm 8 = .lit (.int .i64 c185_8) ∧ K185 (f185 p185 c185_8 c185_o0)) := ⟨_, rfl⟩
   refine loopK mixed (by kernel_rfl) I185 (Int.toNat ((IntKind.i64.wrap (x0_s.Length + 1)) - 0)) (by rw [hI185]; refine ⟨Int.toNat ((IntKind.i64.wrap (x0_s.Length + 1)) - 0), 0, 0, rfl, (by rfl), rfl, rfl, (show nx157 + 43 ≤ nx157 + 43 by omega), ?_, ?_, ?_, ?_, ?_, ?_, ?_, ?_, ?_, ?_, ?_, ?_, ?_, ?_, ?_, ?_, ?_, ?_, ?_, ?_, ?_, ?_, ?_, h⟩ <;> first | (simp only [ua, d27, d34, n173, H159, H160, H161, H162, H163, H164, H165, H166, H167, d181, w182, nm, seval] <;> rfl) | rfl) ?_
   rintro m ⟨tm, H, nx185, df⟩ hinv
   rw [hI185] at hinv
   obtain ⟨p185, c185_8, c185_o0, rfl, hi185, hp185, hdf, hn185, H186, H187, H188, H189, H190, H191, H192, H193, H194, H195, H196, H197, H198, H199, H200, H201, H202, H203, H204, e205, e206, e207, e208, h⟩ := hinv
   simp only at hdf hn185 H186 H187 H188 H189 H190 H191 H192 H193 H194 H195 H196 H197 H198 H199 H200 H201 H202 H203 H204 e205 e206 e207 e208
   have n209 := base_ne0 (m := 45) (b := nx185) (by omega)
   have n210 := base_ne (a := nx157) (m := 43) (b := nx185) (by omega)
   subst hdf hf185
   cases p185 with
   | zero =>
    have d211 : (decide (c185_8 < (IntKind.i64.wrap (x0_s.Length + 1)))) = false := cnt_not_lt hp185
    simp only [g_sight_Hang_l1, hs, reduceCtorEq] at h
    replace h := kG185 _ h
    try dsimp only at h
    try simp only [hs] at h
    try simp only [vz, flr, tyf, d27, d34, (ix24 o38), g158, n173, d181, w182, n209, n210, e205, e206, e207, e208, H186, H187, H188, H189, H190, H191, H192, H193, H194, H195, H196, H197, H198, H199, H200, H201, H202, H203, H204, d211, nm, seval]
    refine opd_normal (x := .tup []) (by simp [Tryz.results126, resV, resL]) ?_
    refine rangeEnd_go hLO184 (by simp only [updH_apply, without_apply, n173, n209, n210, H186, H187, H188, H189, H190, H191, H192, H193, H194, H195, H196, H197, H198, H199, H200, H201, H202, H203, H204, nm, seval] <;> rfl) ?_
    intro LX212
    try simp only [vz, flr, tyf, d27, d34, (ix24 o38), g158, n173, d181, w182, n209, n210, H186, H187, H188, H189, H190, H191, H192, H193, H194, H195, H196, H197, H198, H199, H200, H201, H202, H203, H204, d211, nm, seval]
    refine opd_collN (by simp only [updH_apply, without_apply, n173, n209, n210, H186, H187, H188, H189, H190, H191, H192, H193, H194, H195, H196, H197, H198, H199, H200, H201, H202, H203, H204, nm, seval] <;> rfl) ?_
    try simp only [vz, flr, tyf, d27, d34, (ix24 o38), g158, n173, d181, w182, n209, n210, H186, H187, H188, H189, H190, H191, H192, H193, H194, H195, H196, H197, H198, H199, H200, H201, H202, H203, H204, d211, nm, seval]
    refine opd_normal (x := .tup []) (by simp [Tryz.results127, resV, resL]) ?_
    refine rangeEnd_go hLO183 (by simp only [updH_apply, without_apply, n173, n209, n210, H186, H187, H188, H189, H190, H191, H192, H193, H194, H195, H196, H197, H198, H199, H200, H201, H202, H203, H204, nm, seval] <;> rfl) ?_
    intro LX213
    try simp only [vz, flr, tyf, d27, d34, (ix24 o38), g158, n173, d181, w182, n209, n210, H186, H187, H188, H189, H190, H191, H192, H193, H194, H195, H196, H197, H198, H199, H200, H201, H202, H203, H204, d211, nm, seval]
    refine opd_coll (by simp only [updH_apply, without_apply, n173, n209, n210, H186, H187, H188, H189, H190, H191, H192, H193, H194, H195, H196, H197, H198, H199, H200, H201, H202, H203, H204, nm, seval] <;> rfl) ?_
    try simp only [vz, flr, tyf, d27, d34, (ix24 o38), g158, n173, d181, w182, n209, n210, H186, H187, H188, H189, H190, H191, H192, H193, H194, H195, H196, H197, H198, H199, H200, H201, H202, H203, H204, d211, nm, seval]
    refine opd_ret (x := (.lit (.int .i64 c185_o0))) (by first | (simp only [Tryz.results57, resV, resL, resV1, tgt_ptr, tgt_tp, uw, cr, tyf, d27, d34, (ix24 o38), g158, n173, d181, w182, n209, n210, H186, H187, H188, H189, H190, H191, H192, H193, H194, H195, H196, H197, H198, H199, H200, H201, H202, H203, H204, d211, nm, seval] <;> rfl) | rfl) ?_
    try simp only [vz, flr, tyf, d27, d34, (ix24 o38), g158, n173, d181, w182, n209, n210, H186, H187, H188, H189, H190, H191, H192, H193, H194, H195, H196, H197, H198, H199, H200, H201, H202, H203, H204, d211, e168, e169, e170, e171, e172, rg, nm, seval]
    refine yield_open mixed (psl := [10]) hLO156 (by simp only [updH_apply, without_apply, n173, n209, n210, H186, H187, H188, H189, H190, H191, H192, H193, H194, H195, H196, H197, H198, H199, H200, H201, H202, H203, H204, nm, seval] <;> rfl) tmL_length rfl (by kernel_rfl) (by kernel_rfl) ?_
    intro LB214 LD214 hLB214 hLD214
    refine cwp_tmcut (fun tm => tm 3 = .ptr 32 0 ∧ tm 6 = .ptr 35 0 ∧ tm 7 = .ptr 36 0 ∧ tm 10 = .agg ([.lit (.int .i64 c157_9)] ++ [.lit (.int .i64 c185_o0)]) ∧ True) (by refine ⟨?_, ?_, ?_, ?_, trivial⟩ <;> (simp only [round_tm, round_tm0, Tryz.ntmps76, e168, e169, e170, e171, e172, nm, seval] <;> first | rfl | trivial)) ?_
    rintro tm ⟨e215, e216, e217, e218, _⟩
    have b219 := And.intro d27 (And.intro d34 (And.intro g158 (And.intro n173 (And.intro d181 (And.intro w182 (And.intro n209 (And.intro n210 (And.intro H186 (And.intro H187 (And.intro H188 (And.intro H189 (And.intro H190 (And.intro H191 (And.intro H192 (And.intro H193 (And.intro H194 (And.intro H195 (And.intro H196 (And.intro H197 (And.intro H198 (And.intro H199 (And.intro H200 (And.intro H201 (And.intro H202 (And.intro H203 (And.intro H204 d211))))))))))))))))))))))))))
    try simp only [vz, flr, tyf, b219, (ix24 o38), e215, e216, e217, e218, nm, seval]
    rw [rndAs_normal (by simp only [updH_apply, without_apply, b219, nm, seval] <;> rfl)]
    cases d220 : (c157_o2)
    ·simp only [d220, hs] at h
     try simp only [vz, flr, tyf, b219, (ix24 o38), e215, e216, e217, e218, d220, nm, seval]
     rw [rnd_normal (by simp only [updH_apply, without_apply, b219, nm, seval] <;> rfl)]
     simp only [vz, flr, tyf, b219, (ix24 o38), d220, e168, e169, e170, e171, e172, nm, seval]
     exact ⟨p157, Nat.lt_succ_self _, by rw [hI157]; refine ⟨p157, c157_9 + 1, c157_9, c185_o0, true, c157_9, rfl, cnt_lo hi157, cnt_next hp157, rfl, (show 45 ≤ nx185 + 24 by omega), ?_, ?_, ?_, ?_, ?_, ?_, ?_, ?_, ?_, e168, e169, e170, e171, ?_, h⟩ <;> first | (simp only [ua, b219, d220, e168, e169, e170, e171, e172, nm, seval] <;> rfl) | rfl⟩
    simp only [d220, hs] at h
    rcases o222 : (g_sight_Hang_1 (Gsighthanging.mk c157_9 c185_o0) (Gsighthanging.mk c157_o0 c157_o1)) with _ | r221
    ·simp only [o222, hs] at h
     exact absurd h kN157
    simp only [o222, hs] at h
    simp only [vz, flr, tyf, b219, (ix24 o38), e215, e216, e217, e218, d220, nm, seval]
    refine ktree (args0 := [.agg (cGsighthanging (Gsighthanging.mk c157_9 c185_o0)), .agg (cGsighthanging (Gsighthanging.mk c157_o0 c157_o1))]) (by first | (simp only [nrm, tynrm] <;> rfl) | rfl) (by simp only [tre, tytre, Bool.and_self]) (g_sight_Hang_1_ok _ _ _ o222) ?_
    refine fin_cut (fun tm => tm 6 = .ptr 35 0 ∧ tm 7 = .ptr 36 0 ∧ tm 8 = .ptr (nx185 + 9) 0 ∧ tm 13 = .lit (.bool false) ∧ tm 17 = .lit (.bool r221) ∧ True) (by refine ⟨e216, e217, ?_, ?_, ?_, trivial⟩ <;> first | (simp only [ua, b219, e215, e216, e217, e218, d220, nm, seval] <;> rfl) | rfl) ?_
    rintro tm ⟨e223, e224, e225, e226, e227, _⟩
    cases d228 : (r221)
    ·simp only [d228, hs] at h
     try simp only [vz, flr, tyf, b219, (ix24 o38), d220, e223, e224, e225, e226, e227, d228, nm, seval]
     rw [rnd_normal (by simp only [updH_apply, without_apply, b219, nm, seval] <;> rfl)]
     simp only [vz, flr, tyf, b219, (ix24 o38), d220, d228, e168, e169, e170, e171, e172, nm, seval]
     exact ⟨p157, Nat.lt_succ_self _, by rw [hI157]; refine ⟨p157, c157_9 + 1, c157_o0, c157_o1, true, c157_9, rfl, cnt_lo hi157, cnt_next hp157, rfl, (show 45 ≤ nx185 + 21 by omega), ?_, ?_, ?_, ?_, ?_, ?_, ?_, ?_, ?_, e168, e169, e170, e171, ?_, h⟩ <;> first | (simp only [ua, b219, d220, d228, e168, e169, e170, e171, e172, nm, seval] <;> rfl) | rfl⟩
    simp only [d228, hs] at h
    try simp only [vz, flr, tyf, b219, (ix24 o38), d220, e223, e224, e225, e226, e227, d228, nm, seval]
    rw [rnd_normal (by simp only [updH_apply, without_apply, b219, nm, seval] <;> rfl)]
    simp only [vz, flr, tyf, b219, (ix24 o38), d220, d228, e168, e169, e170, e171, e172, nm, seval]
    exact ⟨p157, Nat.lt_succ_self _, by rw [hI157]; refine ⟨p157, c157_9 + 1, c157_9, c185_o0, true, c157_9, rfl, cnt_lo hi157, cnt_next hp157, rfl, (show 45 ≤ nx185 + 24 by omega), ?_, ?_, ?_, ?_, ?_, ?_, ?_, ?_, ?_, e168, e169, e170, e171, ?_, h⟩ <;> first | (simp only [ua, b219, d220, d228, e168, e169, e170, e171, e172, nm, seval] <;> rfl) | rfl⟩
   | succ p185 =>
    have d229 : (decide (c185_8 < (IntKind.i64.wrap (x0_s.Length + 1)))) = true := cnt_lt hp185
    have w230 := cnt_wrap hi185 hp185 g158
    simp only [g_sight_Hang_l1, hs, reduceCtorEq] at h
    cases g232 : (boundOk x0_s.Width)
    ·simp only [g232, hs] at h
     exact absurd h kN185
    simp only [g232, hs] at h
    simp only [vz, flr, tyf, d27, d34, (ix24 o38), g158, n173, d181, w182, n209, n210, e205, e206, e207, e208, H186, H187, H188, H189, H190, H191, H192, H193, H194, H195, H196, H197, H198, H199, H200, H201, H202, H203, H204, d229, w230, g232, nm, seval]
    obtain ⟨K231, h, kR231, kG231, kB231, kN231⟩ := lbind_intro h kN185
    obtain ⟨f231, hf231, h⟩ := call3 h
    obtain ⟨I231, hI231⟩ : ∃ I : Nat → St → Prop, I = (fun m st => ∃ (p231 : Nat) (c231_13 : Int) (c231_o0 : Int), p231 = m ∧ loOk c231_13 = true ∧ Int.toNat (x0_s.Width - c231_13) = p231 ∧ st.df = [] ∧ nx185 + 6 ≤ st.nx ∧ st.H 27 = some (.cells (some 27) (cGSightStreet x0_s)) ∧ st.H 28 = some (.cells (some 40) ([.lit (.int .i64 c157_9)] ++ [.sl (cellsL cGSightLetter x37.Letters) (List.length x37.Letters) false])) ∧ st.H 24 = some (.cells (some 117) ([.lit (.int .i64 0)] ++ [.lit (.int .i64 0)])) ∧ st.H 32 = some (.cells (some 123) ([VV.fn (Fn.func 78) [] []])) ∧ st.H 33 = some (.cells (some 117) ([.lit (.int .i64 0)] ++ [.lit (.int .i64 0)])) ∧ st.H 35 = some (.cells (some 117) ([.lit (.int .i64 c157_o0)] ++ [.lit (.int .i64 c157_o1)])) ∧ st.H 36 = some (.cells (some 4) ([.lit (.bool c157_o2)])) ∧ st.H 39 = some (.deferred (some [])) ∧ st.H 40 = some LO156 ∧ st.H (nx157 + 10) = some (.cells (some 27) (cGSightStreet x0_s)) ∧ st.H (nx157 + 12) = some (.cells (some 3) ([.lit (.int .i64 c231_o0)])) ∧ st.H (nx157 + 24) = some (.cells (some 27) (cGSightStreet x0_s)) ∧ st.H (nx157 + 28) = some (.cells (some 108) ([VV.fn (Fn.func 126) [] [.ptr (nx157 + 24) 0]])) ∧ st.H (nx157 + 29) = some (.cells (some 100) ([VV.fn (Fn.func 108) [] [.ptr 27 0, .ptr 28 0]])) ∧ st.H (nx157 + 33) = some (.deferred (some [])) ∧ st.H (nx157 + 34) = some LO183 ∧ st.H (nx157 + 35) = some (.cells (some 100) ([.yl (nx157 + 34)])) ∧ st.H (nx157 + 37) = some (.deferred (some [])) ∧ st.H (nx157 + 38) = some LO184 ∧ st.tm 0 = .yl (nx157 + 38) ∧ st.tm 1 = .ptr (nx157 + 24) 0 ∧ st.tm 3 = .lit (.int .i64 c185_8) ∧ st.tm 7 = .lit (.int .i64 (IntKind.i64.wrap (x0_s.Length + 1))) ∧ st.tm 8 = .lit (.int .i64 c185_8) ∧ st.tm 12 = .lit (.int .i64 x0_s.Width) ∧ st.tm 13 = .lit (.int .i64 c231_13) ∧ K231 (f231 p231 c231_13 c231_o0)) := ⟨_, rfl⟩
    refine loopK mixed (by kernel_rfl) I231 (Int.toNat (x0_s.Width - 0)) (by rw [hI231]; refine ⟨Int.toNat (x0_s.Width - 0), 0, c185_o0, rfl, (by rfl), rfl, rfl, (show nx185 + 6 ≤ nx185 + 6 by omega), ?_, ?_, ?_, ?_, ?_, ?_, ?_, ?_, ?_, ?_, ?_, ?_, ?_, ?_, ?_, ?_, ?_, ?_, ?_, e205, e206, ?_, e207, e208, ?_, ?_, h⟩ <;> first | (simp only [ua, d27, d34, n173, d181, w182, n209, n210, e205, e206, e207, e208, H186, H187, H188, H189, H190, H191, H192, H193, H194, H195, H196, H197, H198, H199, H200, H201, H202, H203, H204, d229, w230, nm, seval] <;> rfl) | rfl) ?_
    rintro m ⟨tm, H, nx231, df⟩ hinv
    rw [hI231] at hinv
    obtain ⟨p231, c231_13, c231_o0, rfl, hi231, hp231, hdf, hn231, H233, H234, H235, H236, H237, H238, H239, H240, H241, H242, H243, H244, H245, H246, H247, H248, H249, H250, H251, e252, e253, e254, e255, e256, e257, e258, h⟩ := hinv
    simp only at hdf hn231 H233 H234 H235 H236 H237 H238 H239 H240 H241 H242 H243 H244 H245 H246 H247 H248 H249 H250 H251 e252 e253 e254 e255 e256 e257 e258
    have n259 := base_ne0 (m := 45) (b := nx231) (by omega)
    have n260 := base_ne (a := nx157) (m := 43) (b := nx231) (by omega)
    have n261 := base_ne (a := nx185) (m := 6) (b := nx231) (by omega)
    subst hdf hf231
    cases p231 with
    | zero =>
     have d262 : (decide (c231_13 < x0_s.Width)) = false := cnt_not_lt hp231
     simp only [g_sight_Hang_l2, hs, reduceCtorEq] at h
     replace h := kG231 _ h
     try dsimp only at h
     try simp only [hs] at h
     simp only [vz, flr, tyf, d27, d34, (ix24 o38), g158, n173, d181, w182, n209, n210, d229, w230, g232, n259, n260, n261, e252, e253, e254, e255, e256, e257, e258, H233, H234, H235, H236, H237, H238, H239, H240, H241, H242, H243, H244, H245, H246, H247, H248, H249, H250, H251, d262, nm, seval]
     exact ⟨p185, Nat.lt_succ_self _, by rw [hI185]; refine ⟨p185, c185_8 + 1, c231_o0, rfl, cnt_lo hi185, cnt_next hp185, rfl, (show nx157 + 43 ≤ nx231 + 3 by omega), ?_, ?_, ?_, ?_, ?_, ?_, ?_, ?_, ?_, ?_, ?_, ?_, ?_, ?_, ?_, ?_, ?_, ?_, ?_, e252, e253, e255, ?_, h⟩ <;> first | (simp only [ua, d27, d34, n173, d181, w182, n209, n210, d229, w230, n259, n260, n261, e252, e253, e254, e255, e256, e257, e258, H233, H234, H235, H236, H237, H238, H239, H240, H241, H242, H243, H244, H245, H246, H247, H248, H249, H250, H251, d262, nm, seval] <;> rfl) | rfl⟩
    | succ p231 =>
     have d263 : (decide (c231_13 < x0_s.Width)) = true := cnt_lt hp231
     have w264 := cnt_wrap hi231 hp231 g232
     simp only [g_sight_Hang_l2, hs, reduceCtorEq] at h
     try simp only [vz, flr, tyf, d27, d34, (ix24 o38), g158, n173, d181, w182, n209, n210, d229, w230, g232, n259, n260, n261, e252, e253, e254, e255, e256, e257, e258, H233, H234, H235, H236, H237, H238, H239, H240, H241, H242, H243, H244, H245, H246, H247, H248, H249, H250, H251, d263, w264, rg, nm, seval]
     refine yield_open mixed (psl := [6]) hLO184 (by simp only [updH_apply, without_apply, n173, n209, n210, n259, n260, n261, H233, H234, H235, H236, H237, H238, H239, H240, H241, H242, H243, H244, H245, H246, H247, H248, H249, H250, H251, nm, seval] <;> rfl) tmL_length rfl (by kernel_rfl) (by kernel_rfl) ?_
     intro LB265 LD265 hLB265 hLD265
     refine cwp_tmcut (fun tm => tm 2 = .ptr (nx157 + 29) 0 ∧ tm 3 = .ptr (nx157 + 35) 0 ∧ tm 6 = .agg ([.lit (.int .i64 c185_8)] ++ [.lit (.int .i64 (c231_13 + 1))]) ∧ True) (by refine ⟨?_, ?_, ?_, trivial⟩ <;> (simp only [round_tm, round_tm0, Tryz.ntmps127, e252, e253, e254, e255, e256, e257, e258, nm, seval] <;> first | rfl | trivial)) ?_
     rintro tm ⟨e266, e267, e268, _⟩
     have b269 := And.intro d27 (And.intro d34 (And.intro g158 (And.intro n173 (And.intro d181 (And.intro w182 (And.intro n209 (And.intro n210 (And.intro d229 (And.intro w230 (And.intro g232 (And.intro n259 (And.intro n260 (And.intro n261 (And.intro H233 (And.intro H234 (And.intro H235 (And.intro H236 (And.intro H237 (And.intro H238 (And.intro H239 (And.intro H240 (And.intro H241 (And.intro H242 (And.intro H243 (And.intro H244 (And.intro H245 (And.intro H246 (And.intro H247 (And.intro H248 (And.intro H249 (And.intro H250 (And.intro H251 (And.intro d263 w264)))))))))))))))))))))))))))))))))
     try simp only [vz, flr, tyf, b269, (ix24 o38), e266, e267, e268, nm, seval]
     rw [rndAs_normal (by simp only [updH_apply, without_apply, b269, nm, seval] <;> rfl)]
     try simp only [vz, flr, tyf, b269, (ix24 o38), e266, e267, e268, nm, seval]
     refine kopen ?_
     rw [openK_eq]
     refine VOpen.run mixed Tryz.call108 Tryz.func108 rfl (by simp [Tryz.ntmps108]; kernel_rfl) ?_
     rcases o271 : (g_sight_isSurelyRead x0_s (GSightBoard.mk c157_9 x37.Letters) (GSightPlace.mk c185_8 (c231_13 + 1))) with _ | r270
     ·simp only [o271, hs] at h
      exact absurd h kN231
     simp only [o271, hs] at h
     simp only [vz, flr, tyf, b269, (ix24 o38), nm, seval]
     refine ktree (args0 := [.agg (cGSightStreet x0_s), .agg (cGSightBoard (GSightBoard.mk c157_9 x37.Letters)), .agg (cGSightPlace (GSightPlace.mk c185_8 (c231_13 + 1)))]) (by first | (simp only [nrm, tynrm] <;> rfl) | rfl) (by simp only [tre, tytre, Bool.and_self]) (g_sight_isSurelyRead_ok _ _ _ _ o271) ?_
     refine fin_cut (fun tm => tm 8 = .lit (.bool r270) ∧ True) (by refine ⟨?_, trivial⟩ <;> first | (simp only [ua, b269, nm, seval] <;> rfl) | rfl) ?_
     rintro tm ⟨e272, _⟩
     try simp only [vz, flr, tyf, b269, (ix24 o38), e272, nm, seval]
     refine opd_ret (x := (.lit (.bool r270))) (by first | (simp only [Tryz.results108, resV, resL, resV1, tgt_ptr, tgt_tp, uw, cr, tyf, b269, (ix24 o38), nm, seval] <;> rfl) | rfl) ?_
     cases d273 : (r270)
     ·simp only [d273, hs] at h
      try simp only [vz, flr, tyf, b269, (ix24 o38), e266, e267, e268, d273, nm, seval]
      rw [rnd_normal (by simp only [updH_apply, without_apply, b269, nm, seval] <;> rfl)]
      simp only [vz, flr, tyf, b269, (ix24 o38), d273, e252, e253, e254, e255, e256, e257, e258, nm, seval]
      exact ⟨p231, Nat.lt_succ_self _, by rw [hI231]; refine ⟨p231, c231_13 + 1, c231_o0, rfl, cnt_lo hi231, cnt_next hp231, rfl, (show nx185 + 6 ≤ nx231 + 30 by omega), ?_, ?_, ?_, ?_, ?_, ?_, ?_, ?_, ?_, ?_, ?_, ?_, ?_, ?_, ?_, ?_, ?_, ?_, ?_, e252, e253, e254, e255, e256, e257, ?_, h⟩ <;> first | (simp only [ua, b269, d273, e252, e253, e254, e255, e256, e257, e258, nm, seval] <;> rfl) | rfl⟩
     simp only [d273, hs] at h
     try simp only [vz, flr, tyf, b269, (ix24 o38), e266, e267, e268, d273, rg, nm, seval]
     refine yield_open mixed (psl := [9]) hLO183 (by simp only [updH_apply, without_apply, b269, nm, seval] <;> rfl) tmL_length rfl (by kernel_rfl) (by kernel_rfl) ?_
     intro LB274 LD274 hLB274 hLD274
     refine cwp_tmcut (fun tm => tm 5 = .ptr (nx157 + 12) 0 ∧ True) (by refine ⟨?_, trivial⟩ <;> (simp only [round_tm, round_tm0, Tryz.ntmps57, e266, e267, e268, nm, seval] <;> first | rfl | trivial)) ?_
     rintro tm ⟨e275, _⟩
     try simp only [vz, flr, tyf, b269, (ix24 o38), d273, e275, nm, seval]
     rw [rndAs_normal (by simp only [updH_apply, without_apply, b269, nm, seval] <;> rfl)]
     try simp only [vz, flr, tyf, b269, (ix24 o38), d273, e275, nm, seval]
     rw [rnd_normal (by simp only [updH_apply, without_apply, b269, nm, seval] <;> rfl)]
     try simp only [vz, flr, tyf, b269, (ix24 o38), d273, e266, e267, e268, nm, seval]
     rw [rnd_normal (by simp only [updH_apply, without_apply, b269, nm, seval] <;> rfl)]
     simp only [vz, flr, tyf, b269, (ix24 o38), d273, e252, e253, e254, e255, e256, e257, e258, nm, seval]
     exact ⟨p231, Nat.lt_succ_self _, by rw [hI231]; refine ⟨p231, c231_13 + 1, IntKind.i64.wrap (c231_o0 + 1), rfl, cnt_lo hi231, cnt_next hp231, rfl, (show nx185 + 6 ≤ nx231 + 33 by omega), ?_, ?_, ?_, ?_, ?_, ?_, ?_, ?_, ?_, ?_, ?_, ?_, ?_, ?_, ?_, ?_, ?_, ?_, ?_, e252, e253, e254, e255, e256, e257, ?_, h⟩ <;> first | (simp only [ua, b269, d273, e252, e253, e254, e255, e256, e257, e258, nm, seval] <;> rfl) | rfl⟩
 refine flD_go rfl ?_
 try simp only [vz, flr, tyf, d27, d34, e35, e36, (ix24 o38), nm, seval]
 refine ⟨?_, ?_⟩
 ·try simp only [traceR_cons, traceR_nil, hitK_quiet, hitK_nil, and_true, true_and]
  repeat' (first | exact trivial | refine And.intro ?_ ?_ | rw [hitK_quiet] | rw [hitK_cons] | exact Or.inl (by decide +kernel) | exact Or.inl (by dsimp only; decide +kernel) | (refine Or.inr ⟨?_, ?_⟩ <;> simp; done) | (refine Or.inr ⟨?_, ?_⟩ <;> simp <;> omega) | (refine Or.inr ⟨?_, ?_⟩ <;> simp [VEff.wr] <;> omega))
 refine flB_go rfl ?_
 try simp only [vz, flr, tyf, d27, d34, e35, e36, (ix24 o38), nm, seval]
 refine kopen ?_
 rw [openK_eq]
 refine VOpen.run mixed Tryz.call77 Tryz.func77 rfl (by simp [Tryz.ntmps77]; kernel_rfl) ?_
 try simp only [vz, flr, tyf, d27, d34, (ix24 o38), nm, seval]
 refine opd_ret (x := (VV.fn (Fn.func 107) [] [.ptr 27 0, .ptr 28 0])) (by first | (simp only [Tryz.results77, resV, resL, resV1, tgt_ptr, tgt_tp, uw, cr, tyf, d27, d34, (ix24 o38), nm, seval] <;> rfl) | rfl) ?_
 try simp only [vz, flr, tyf, d27, d34, (ix24 o38), e35, e36, nm, seval]
 refine flGo_segE ?_
 simp only [vz, flr, tyf, d27, d34, (ix24 o38), e35, e36, nm, seval]
 refine flR_end ⟨?_, ?_⟩
 ·try simp only [traceR_cons, traceR_nil, hitK_quiet, hitK_nil, and_true, true_and]
  repeat' (first | exact trivial | refine And.intro ?_ ?_ | rw [hitK_quiet] | rw [hitK_cons] | exact Or.inl (by decide +kernel) | exact Or.inl (by dsimp only; decide +kernel) | (refine Or.inr ⟨?_, ?_⟩ <;> simp; done) | (refine Or.inr ⟨?_, ?_⟩ <;> simp <;> omega) | (refine Or.inr ⟨?_, ?_⟩ <;> simp [VEff.wr] <;> omega))
 refine flB_go rfl ?_
 try simp only [vz, flr, tyf, d27, d34, (ix24 o38), e35, e36, nm, seval]
 refine kopen ?_
 rw [openK_eq]
 refine VOpen.run mixed Tryz.call76 Tryz.func76 rfl (by simp [Tryz.ntmps76]; kernel_rfl) ?_
 try simp only [vz, flr, tyf, d27, d34, (ix24 o38), nm, seval]
 refine range_open (f := 107) (first := []) (captured := [.ptr 27 0, .ptr 28 0]) (by first | (simp only [ev_tmp, ev_func, d27, d34, (ix24 o38), upd_apply, nm, seval] <;> rfl) | rfl) ?_
 intro LO276 hLO276
 refine VOpen.run mixed Tryz.call107 Tryz.func107 rfl (by simp [Tryz.ntmps107]; kernel_rfl) ?_
 cases g278 : (boundOk (IntKind.i64.wrap (x0_s.Length + 1)))
 ·simp only [g278, hs] at h
  exact absurd h kN
 simp only [g278, hs] at h
 simp only [vz, flr, tyf, d27, d34, (ix24 o38), g278, nm, seval]
 obtain ⟨K277, h, kR277, kG277, kB277, kN277⟩ := lbind_intro h kN
 obtain ⟨f277, hf277, h⟩ := call6 h
 obtain ⟨I277, hI277⟩ : ∃ I : Nat → St → Prop, I = (fun m st => ∃ (p277 : Nat) (c277_9 : Int) (c277_o0 : Int) (c277_o1 : Int) (c277_o2 : Bool) (c277_o3 : Int), p277 = m ∧ loOk c277_9 = true ∧ Int.toNat ((IntKind.i64.wrap (x0_s.Length + 1)) - c277_9) = p277 ∧ st.df = [] ∧ 45 ≤ st.nx ∧ st.H 24 = some (.cells (some 117) ([.lit (.int .i64 0)] ++ [.lit (.int .i64 0)])) ∧ st.H 27 = some (.cells (some 27) (cGSightStreet x0_s)) ∧ st.H 28 = some (.cells (some 40) ([.lit (.int .i64 c277_o3)] ++ [.sl (cellsL cGSightLetter x37.Letters) (List.length x37.Letters) false])) ∧ st.H 32 = some (.cells (some 123) ([VV.fn (Fn.func 78) [] []])) ∧ st.H 33 = some (.cells (some 117) ([.lit (.int .i64 0)] ++ [.lit (.int .i64 0)])) ∧ st.H 35 = some (.cells (some 117) ([.lit (.int .i64 c277_o0)] ++ [.lit (.int .i64 c277_o1)])) ∧ st.H 36 = some (.cells (some 4) ([.lit (.bool c277_o2)])) ∧ st.H 39 = some (.deferred (some [])) ∧ st.H 40 = some LO276 ∧ st.tm 0 = .yl 40 ∧ st.tm 1 = .ptr 27 0 ∧ st.tm 2 = .ptr 28 0 ∧ st.tm 8 = .lit (.int .i64 (IntKind.i64.wrap (x0_s.Length + 1))) ∧ st.tm 9 = .lit (.int .i64 c277_9) ∧ K277 (f277 p277 c277_9 c277_o0 c277_o1 c277_o2 c277_o3)) := ⟨_, rfl⟩
 refine loopK mixed (by kernel_rfl) I277 (Int.toNat ((IntKind.i64.wrap (x0_s.Length + 1)) - 0)) (by rw [hI277]; refine ⟨Int.toNat ((IntKind.i64.wrap (x0_s.Length + 1)) - 0), 0, 0, 0, false, x37.At, rfl, (by rfl), rfl, rfl, (show 45 ≤ 45 by omega), ?_, ?_, ?_, ?_, ?_, ?_, ?_, ?_, ?_, ?_, ?_, ?_, ?_, ?_, h⟩ <;> first | (simp only [ua, d27, d34, nm, seval] <;> rfl) | rfl) ?_
 rintro m ⟨tm, H, nx277, df⟩ hinv
 rw [hI277] at hinv
 obtain ⟨p277, c277_9, c277_o0, c277_o1, c277_o2, c277_o3, rfl, hi277, hp277, hdf, hn277, H279, H280, H281, H282, H283, H284, H285, H286, H287, e288, e289, e290, e291, e292, h⟩ := hinv
 simp only at hdf hn277 H279 H280 H281 H282 H283 H284 H285 H286 H287 e288 e289 e290 e291 e292
 have n293 := base_ne0 (m := 45) (b := nx277) (by omega)
 subst hdf hf277
 cases p277 with
 | zero =>
  have d294 : (decide (c277_9 < (IntKind.i64.wrap (x0_s.Length + 1)))) = false := cnt_not_lt hp277
  simp only [g_sight_Hang_l0, hs, reduceCtorEq] at h
  replace h := kG277 _ h
  try dsimp only at h
  try simp only [hs] at h
  try simp only [vz, flr, tyf, d27, d34, (ix24 o38), g278, n293, e288, e289, e290, e291, e292, H279, H280, H281, H282, H283, H284, H285, H286, H287, d294, nm, seval]
  refine opd_normal (x := .tup []) (by simp [Tryz.results107, resV, resL]) ?_
  refine rangeEnd_go hLO276 (by simp only [updH_apply, without_apply, n293, H279, H280, H281, H282, H283, H284, H285, H286, H287, nm, seval] <;> rfl) ?_
  intro LX295
  simp only [vz, flr, tyf, d27, d34, (ix24 o38), g278, n293, H279, H280, H281, H282, H283, H284, H285, H286, H287, d294, nm, seval]
  refine cwp_drawTF (fun tm => tm 4 = .ptr 33 0 ∧ tm 6 = .ptr 35 0 ∧ tm 7 = .ptr 36 0 ∧ True) (by refine ⟨?_, ?_, ?_, trivial⟩ <;> first | (simp only [ua, d27, d34, n293, H279, H280, H281, H282, H283, H284, H285, H286, H287, d294, nm, seval] <;> rfl) | rfl) ?_
  rintro tm ⟨e296, e297, e298, _⟩
  have b299 := And.intro d27 (And.intro d34 (And.intro g278 (And.intro n293 (And.intro H279 (And.intro H280 (And.intro H281 (And.intro H282 (And.intro H283 (And.intro H284 (And.intro H285 (And.intro H286 (And.intro H287 d294))))))))))))
  simp only [vz, flr, tyf, b299, (ix24 o38), e296, e297, e298, nm, seval]
  refine drawK_nil ⟨?_, ?_⟩
  ·simp only [traceR_cons, traceR_nil, hitK_quiet, hitK_nil, and_true, true_and]
   repeat' (first | exact trivial | refine And.intro ?_ ?_ | rw [hitK_quiet] | rw [hitK_cons] | exact Or.inl (by decide +kernel) | exact Or.inl (by dsimp only; decide +kernel) | (refine Or.inr ⟨?_, ?_⟩ <;> simp; done) | (refine Or.inr ⟨?_, ?_⟩ <;> simp <;> omega) | (refine Or.inr ⟨?_, ?_⟩ <;> simp [VEff.wr] <;> omega))
  try simp only [vz, flr, tyf, b299, (ix24 o38), e296, e297, e298, nm, seval]
  refine opd_coll (by simp only [updH_apply, without_apply, b299, nm, seval] <;> rfl) ?_
  try simp only [vz, flr, tyf, b299, (ix24 o38), e296, e297, e298, nm, seval]
  refine opd_ret (x := (.tup [.agg ([.lit (.int .i64 c277_o0)] ++ [.lit (.int .i64 c277_o1)]), .lit (.bool c277_o2)])) (by first | (simp only [Tryz.results76, resV, resL, resV1, tgt_ptr, tgt_tp, uw, cr, tyf, b299, (ix24 o38), e296, e297, e298, nm, seval] <;> rfl) | rfl) ?_
  try simp only [vz, flr, tyf, b299, (ix24 o38), e35, e36, nm, seval]
  refine flGo_lastE ?_
  simp only [vz, flr, tyf, b299, (ix24 o38), e35, e36, nm, seval]
  refine flR_end ⟨?_, ?_⟩
  ·try simp only [traceR_cons, traceR_nil, hitK_quiet, hitK_nil, and_true, true_and]
   repeat' (first | exact trivial | refine And.intro ?_ ?_ | rw [hitK_quiet] | rw [hitK_cons] | exact Or.inl (by decide +kernel) | exact Or.inl (by dsimp only; decide +kernel) | (refine Or.inr ⟨?_, ?_⟩ <;> simp; done) | (refine Or.inr ⟨?_, ?_⟩ <;> simp <;> omega) | (refine Or.inr ⟨?_, ?_⟩ <;> simp [VEff.wr] <;> omega))
  try simp only [vz, flr, tyf, b299, (ix24 o38), e35, e36, nm, seval]
  refine cwp_drwQF (fun tm => tm 7 = .ptr 24 0 ∧ True) (by refine ⟨?_, trivial⟩ <;> first | (simp only [ua, b299, e35, e36, nm, seval] <;> rfl) | rfl) ?_
  rintro tm ⟨e300, _⟩
  try simp only [vz, flr, tyf, b299, (ix24 o38), e300, nm, seval]
  refine opd_ret (x := (.tup [.lit (.int .i64 c277_o0), .lit (.int .i64 c277_o1), .lit (.int .i64 0)])) (by first | (simp only [Tryz.results34, resV, resL, resV1, tgt_ptr, tgt_tp, uw, cr, tyf, b299, (ix24 o38), nm, seval] <;> rfl) | rfl) ?_
  obtain rfl := kF _ h
  refine rr_tree ?_ ?_
  ·simp only [tre, tytre, Bool.and_self]
  ·first | (simp only [outV, uw, showV_ref, cr, tyf, nrm, tynrm, b299, (ix24 o38), e300, nm, seval] <;> rfl) | rfl
 | succ p277 =>
  have d301 : (decide (c277_9 < (IntKind.i64.wrap (x0_s.Length + 1)))) = true := cnt_lt hp277
  have w302 := cnt_wrap hi277 hp277 g278
  simp only [g_sight_Hang_l0, hs, reduceCtorEq] at h
  try simp only [vz, flr, tyf, d27, d34, (ix24 o38), g278, n293, e288, e289, e290, e291, e292, H279, H280, H281, H282, H283, H284, H285, H286, H287, d301, w302, nm, seval]
  refine kopen ?_
  rw [openK_eq]
  refine VOpen.run mixed Tryz.call57 Tryz.func57 rfl (by simp [Tryz.ntmps57]; kernel_rfl) ?_
  try simp only [vz, flr, tyf, d27, d34, (ix24 o38), g278, n293, H279, H280, H281, H282, H283, H284, H285, H286, H287, d301, w302, nm, seval]
  refine kopen ?_
  rw [openK_eq]
  refine VOpen.run mixed Tryz.call64 Tryz.func64 rfl (by simp [Tryz.ntmps64]; kernel_rfl) ?_
  try simp only [vz, flr, tyf, d27, d34, (ix24 o38), g278, n293, H279, H280, H281, H282, H283, H284, H285, H286, H287, d301, w302, nm, seval]
  refine kopen ?_
  rw [openK_eq]
  refine VOpen.run mixed Tryz.call98 Tryz.func98 rfl (by simp [Tryz.ntmps98]; kernel_rfl) ?_
  try simp only [vz, flr, tyf, d27, d34, (ix24 o38), g278, n293, H279, H280, H281, H282, H283, H284, H285, H286, H287, d301, w302, nm, seval]
  refine opd_ret (x := (VV.fn (Fn.func 126) [] [.ptr (nx277 + 24) 0])) (by first | (simp only [Tryz.results98, resV, resL, resV1, tgt_ptr, tgt_tp, uw, cr, tyf, d27, d34, (ix24 o38), g278, n293, H279, H280, H281, H282, H283, H284, H285, H286, H287, d301, w302, nm, seval] <;> rfl) | rfl) ?_
  try simp only [vz, flr, tyf, d27, d34, (ix24 o38), g278, n293, H279, H280, H281, H282, H283, H284, H285, H286, H287, d301, w302, nm, seval]
  refine kopen ?_
  rw [openK_eq]
  refine VOpen.run mixed Tryz.call100 Tryz.func100 rfl (by simp [Tryz.ntmps100]; kernel_rfl) ?_
  try simp only [vz, flr, tyf, d27, d34, (ix24 o38), g278, n293, H279, H280, H281, H282, H283, H284, H285, H286, H287, d301, w302, nm, seval]
  refine opd_ret (x := (VV.fn (Fn.func 127) [] [.ptr (nx277 + 28) 0, .ptr (nx277 + 29) 0])) (by first | (simp only [Tryz.results100, resV, resL, resV1, tgt_ptr, tgt_tp, uw, cr, tyf, d27, d34, (ix24 o38), g278, n293, H279, H280, H281, H282, H283, H284, H285, H286, H287, d301, w302, nm, seval] <;> rfl) | rfl) ?_
  try simp only [vz, flr, tyf, d27, d34, (ix24 o38), g278, n293, H279, H280, H281, H282, H283, H284, H285, H286, H287, d301, w302, nm, seval]
  refine opd_ret (x := (VV.fn (Fn.func 127) [] [.ptr (nx277 + 28) 0, .ptr (nx277 + 29) 0])) (by first | (simp only [Tryz.results64, resV, resL, resV1, tgt_ptr, tgt_tp, uw, cr, tyf, d27, d34, (ix24 o38), g278, n293, H279, H280, H281, H282, H283, H284, H285, H286, H287, d301, w302, nm, seval] <;> rfl) | rfl) ?_
  try simp only [vz, flr, tyf, d27, d34, (ix24 o38), g278, n293, H279, H280, H281, H282, H283, H284, H285, H286, H287, d301, w302, nm, seval]
  refine range_open (f := 127) (first := []) (captured := [.ptr (nx277 + 28) 0, .ptr (nx277 + 29) 0]) (by first | (simp only [ev_tmp, ev_func, d27, d34, (ix24 o38), g278, n293, H279, H280, H281, H282, H283, H284, H285, H286, H287, d301, w302, upd_apply, nm, seval] <;> rfl) | rfl) ?_
  intro LO303 hLO303
  refine VOpen.run mixed Tryz.call127 Tryz.func127 rfl (by simp [Tryz.ntmps127]; kernel_rfl) ?_
  try simp only [vz, flr, tyf, d27, d34, (ix24 o38), g278, n293, H279, H280, H281, H282, H283, H284, H285, H286, H287, d301, w302, nm, seval]
  refine range_open (f := 126) (first := []) (captured := [.ptr (nx277 + 24) 0]) (by first | (simp only [ev_tmp, ev_func, d27, d34, (ix24 o38), g278, n293, H279, H280, H281, H282, H283, H284, H285, H286, H287, d301, w302, upd_apply, nm, seval] <;> rfl) | rfl) ?_
  intro LO304 hLO304
  refine VOpen.run mixed Tryz.call126 Tryz.func126 rfl (by simp [Tryz.ntmps126]; kernel_rfl) ?_
  simp only [vz, flr, tyf, d27, d34, (ix24 o38), g278, n293, H279, H280, H281, H282, H283, H284, H285, H286, H287, d301, w302, nm, seval]
  obtain ⟨K305, h, kR305, kG305, kB305, kN305⟩ := lbind_intro h kN277
  obtain ⟨f305, hf305, h⟩ := call3 h
  obtain ⟨I305, hI305⟩ : ∃ I : Nat → St → Prop, I = (fun m st => ∃ (p305 : Nat) (c305_8 : Int) (c305_o0 : Int), p305 = m ∧ loOk c305_8 = true ∧ Int.toNat ((IntKind.i64.wrap (x0_s.Length + 1)) - c305_8) = p305 ∧ st.df = [] ∧ nx277 + 43 ≤ st.nx ∧ st.H 24 = some (.cells (some 117) ([.lit (.int .i64 0)] ++ [.lit (.int .i64 0)])) ∧ st.H 27 = some (.cells (some 27) (cGSightStreet x0_s)) ∧ st.H 28 = some (.cells (some 40) ([.lit (.int .i64 c277_9)] ++ [.sl (cellsL cGSightLetter x37.Letters) (List.length x37.Letters) false])) ∧ st.H 32 = some (.cells (some 123) ([VV.fn (Fn.func 78) [] []])) ∧ st.H 33 = some (.cells (some 117) ([.lit (.int .i64 0)] ++ [.lit (.int .i64 0)])) ∧ st.H 35 = some (.cells (some 117) ([.lit (.int .i64 c277_o0)] ++ [.lit (.int .i64 c277_o1)])) ∧ st.H 36 = some (.cells (some 4) ([.lit (.bool c277_o2)])) ∧ st.H 39 = some (.deferred (some [])) ∧ st.H 40 = some LO276 ∧ st.H (nx277 + 10) = some (.cells (some 27) (cGSightStreet x0_s)) ∧ st.H (nx277 + 12) = some (.cells (some 3) ([.lit (.int .i64 c305_o0)])) ∧ st.H (nx277 + 24) = some (.cells (some 27) (cGSightStreet x0_s)) ∧ st.H (nx277 + 28) = some (.cells (some 108) ([VV.fn (Fn.func 126) [] [.ptr (nx277 + 24) 0]])) ∧ st.H (nx277 + 29) = some (.cells (some 100) ([VV.fn (Fn.func 108) [] [.ptr 27 0, .ptr 28 0]])) ∧ st.H (nx277 + 33) = some (.deferred (some [])) ∧ st.H (nx277 + 34) = some LO303 ∧ st.H (nx277 + 35) = some (.cells (some 100) ([.yl (nx277 + 34)])) ∧ st.H (nx277 + 37) = some (.deferred (some [])) ∧ st.H (nx277 + 38) = some LO304 ∧ st.tm 0 = .yl (nx277 + 38) ∧ st.tm 1 = .ptr (nx277 + 24) 0 ∧ st.tm 7 = .lit (.int .i64 (IntKind.i64.wrap (x0_s.Length + 1))) ∧ st.tm 8 = .lit (.int .i64 c305_8) ∧ K305 (f305 p305 c305_8 c305_o0)) := ⟨_, rfl⟩
  refine loopK mixed (by kernel_rfl) I305 (Int.toNat ((IntKind.i64.wrap (x0_s.Length + 1)) - 0)) (by rw [hI305]; refine ⟨Int.toNat ((IntKind.i64.wrap (x0_s.Length + 1)) - 0), 0, 0, rfl, (by rfl), rfl, rfl, (show nx277 + 43 ≤ nx277 + 43 by omega), ?_, ?_, ?_, ?_, ?_, ?_, ?_, ?_, ?_, ?_, ?_, ?_, ?_, ?_, ?_, ?_, ?_, ?_, ?_, ?_, ?_, ?_, ?_, h⟩ <;> first | (simp only [ua, d27, d34, n293, H279, H280, H281, H282, H283, H284, H285, H286, H287, d301, w302, nm, seval] <;> rfl) | rfl) ?_
  rintro m ⟨tm, H, nx305, df⟩ hinv
  rw [hI305] at hinv
  obtain ⟨p305, c305_8, c305_o0, rfl, hi305, hp305, hdf, hn305, H306, H307, H308, H309, H310, H311, H312, H313, H314, H315, H316, H317, H318, H319, H320, H321, H322, H323, H324, e325, e326, e327, e328, h⟩ := hinv
  simp only at hdf hn305 H306 H307 H308 H309 H310 H311 H312 H313 H314 H315 H316 H317 H318 H319 H320 H321 H322 H323 H324 e325 e326 e327 e328
  have n329 := base_ne0 (m := 45) (b := nx305) (by omega)
  have n330 := base_ne (a := nx277) (m := 43) (b := nx305) (by omega)
  subst hdf hf305
  cases p305 with
  | zero =>
   have d331 : (decide (c305_8 < (IntKind.i64.wrap (x0_s.Length + 1)))) = false := cnt_not_lt hp305
   simp only [g_sight_Hang_l1, hs, reduceCtorEq] at h
   replace h := kG305 _ h
   try dsimp only at h
   try simp only [hs] at h
   try simp only [vz, flr, tyf, d27, d34, (ix24 o38), g278, n293, d301, w302, n329, n330, e325, e326, e327, e328, H306, H307, H308, H309, H310, H311, H312, H313, H314, H315, H316, H317, H318, H319, H320, H321, H322, H323, H324, d331, nm, seval]
   refine opd_normal (x := .tup []) (by simp [Tryz.results126, resV, resL]) ?_
   refine rangeEnd_go hLO304 (by simp only [updH_apply, without_apply, n293, n329, n330, H306, H307, H308, H309, H310, H311, H312, H313, H314, H315, H316, H317, H318, H319, H320, H321, H322, H323, H324, nm, seval] <;> rfl) ?_
   intro LX332
   try simp only [vz, flr, tyf, d27, d34, (ix24 o38), g278, n293, d301, w302, n329, n330, H306, H307, H308, H309, H310, H311, H312, H313, H314, H315, H316, H317, H318, H319, H320, H321, H322, H323, H324, d331, nm, seval]
   refine opd_collN (by simp only [updH_apply, without_apply, n293, n329, n330, H306, H307, H308, H309, H310, H311, H312, H313, H314, H315, H316, H317, H318, H319, H320, H321, H322, H323, H324, nm, seval] <;> rfl) ?_
   try simp only [vz, flr, tyf, d27, d34, (ix24 o38), g278, n293, d301, w302, n329, n330, H306, H307, H308, H309, H310, H311, H312, H313, H314, H315, H316, H317, H318, H319, H320, H321, H322, H323, H324, d331, nm, seval]
   refine opd_normal (x := .tup []) (by simp [Tryz.results127, resV, resL]) ?_
   refine rangeEnd_go hLO303 (by simp only [updH_apply, without_apply, n293, n329, n330, H306, H307, H308, H309, H310, H311, H312, H313, H314, H315, H316, H317, H318, H319, H320, H321, H322, H323, H324, nm, seval] <;> rfl) ?_
   intro LX333
   try simp only [vz, flr, tyf, d27, d34, (ix24 o38), g278, n293, d301, w302, n329, n330, H306, H307, H308, H309, H310, H311, H312, H313, H314, H315, H316, H317, H318, H319, H320, H321, H322, H323, H324, d331, nm, seval]
   refine opd_coll (by simp only [updH_apply, without_apply, n293, n329, n330, H306, H307, H308, H309, H310, H311, H312, H313, H314, H315, H316, H317, H318, H319, H320, H321, H322, H323, H324, nm, seval] <;> rfl) ?_
   try simp only [vz, flr, tyf, d27, d34, (ix24 o38), g278, n293, d301, w302, n329, n330, H306, H307, H308, H309, H310, H311, H312, H313, H314, H315, H316, H317, H318, H319, H320, H321, H322, H323, H324, d331, nm, seval]
   refine opd_ret (x := (.lit (.int .i64 c305_o0))) (by first | (simp only [Tryz.results57, resV, resL, resV1, tgt_ptr, tgt_tp, uw, cr, tyf, d27, d34, (ix24 o38), g278, n293, d301, w302, n329, n330, H306, H307, H308, H309, H310, H311, H312, H313, H314, H315, H316, H317, H318, H319, H320, H321, H322, H323, H324, d331, nm, seval] <;> rfl) | rfl) ?_
   try simp only [vz, flr, tyf, d27, d34, (ix24 o38), g278, n293, d301, w302, n329, n330, H306, H307, H308, H309, H310, H311, H312, H313, H314, H315, H316, H317, H318, H319, H320, H321, H322, H323, H324, d331, e288, e289, e290, e291, e292, rg, nm, seval]
   refine yield_open mixed (psl := [10]) hLO276 (by simp only [updH_apply, without_apply, n293, n329, n330, H306, H307, H308, H309, H310, H311, H312, H313, H314, H315, H316, H317, H318, H319, H320, H321, H322, H323, H324, nm, seval] <;> rfl) tmL_length rfl (by kernel_rfl) (by kernel_rfl) ?_
   intro LB334 LD334 hLB334 hLD334
   refine cwp_tmcut (fun tm => tm 3 = .ptr 32 0 ∧ tm 6 = .ptr 35 0 ∧ tm 7 = .ptr 36 0 ∧ tm 10 = .agg ([.lit (.int .i64 c277_9)] ++ [.lit (.int .i64 c305_o0)]) ∧ True) (by refine ⟨?_, ?_, ?_, ?_, trivial⟩ <;> (simp only [round_tm, round_tm0, Tryz.ntmps76, e288, e289, e290, e291, e292, nm, seval] <;> first | rfl | trivial)) ?_
   rintro tm ⟨e335, e336, e337, e338, _⟩
   have b339 := And.intro d27 (And.intro d34 (And.intro g278 (And.intro n293 (And.intro d301 (And.intro w302 (And.intro n329 (And.intro n330 (And.intro H306 (And.intro H307 (And.intro H308 (And.intro H309 (And.intro H310 (And.intro H311 (And.intro H312 (And.intro H313 (And.intro H314 (And.intro H315 (And.intro H316 (And.intro H317 (And.intro H318 (And.intro H319 (And.intro H320 (And.intro H321 (And.intro H322 (And.intro H323 (And.intro H324 d331))))))))))))))))))))))))))
   try simp only [vz, flr, tyf, b339, (ix24 o38), e335, e336, e337, e338, nm, seval]
   rw [rndAs_normal (by simp only [updH_apply, without_apply, b339, nm, seval] <;> rfl)]
   cases d340 : (c277_o2)
   ·simp only [d340, hs] at h
    try simp only [vz, flr, tyf, b339, (ix24 o38), e335, e336, e337, e338, d340, nm, seval]
    rw [rnd_normal (by simp only [updH_apply, without_apply, b339, nm, seval] <;> rfl)]
    simp only [vz, flr, tyf, b339, (ix24 o38), d340, e288, e289, e290, e291, e292, nm, seval]
    exact ⟨p277, Nat.lt_succ_self _, by rw [hI277]; refine ⟨p277, c277_9 + 1, c277_9, c305_o0, true, c277_9, rfl, cnt_lo hi277, cnt_next hp277, rfl, (show 45 ≤ nx305 + 24 by omega), ?_, ?_, ?_, ?_, ?_, ?_, ?_, ?_, ?_, e288, e289, e290, e291, ?_, h⟩ <;> first | (simp only [ua, b339, d340, e288, e289, e290, e291, e292, nm, seval] <;> rfl) | rfl⟩
   simp only [d340, hs] at h
   rcases o342 : (g_sight_Hang_1 (Gsighthanging.mk c277_9 c305_o0) (Gsighthanging.mk c277_o0 c277_o1)) with _ | r341
   ·simp only [o342, hs] at h
    exact absurd h kN277
   simp only [o342, hs] at h
   simp only [vz, flr, tyf, b339, (ix24 o38), e335, e336, e337, e338, d340, nm, seval]
   refine ktree (args0 := [.agg (cGsighthanging (Gsighthanging.mk c277_9 c305_o0)), .agg (cGsighthanging (Gsighthanging.mk c277_o0 c277_o1))]) (by first | (simp only [nrm, tynrm] <;> rfl) | rfl) (by simp only [tre, tytre, Bool.and_self]) (g_sight_Hang_1_ok _ _ _ o342) ?_
   refine fin_cut (fun tm => tm 6 = .ptr 35 0 ∧ tm 7 = .ptr 36 0 ∧ tm 8 = .ptr (nx305 + 9) 0 ∧ tm 13 = .lit (.bool false) ∧ tm 17 = .lit (.bool r341) ∧ True) (by refine ⟨e336, e337, ?_, ?_, ?_, trivial⟩ <;> first | (simp only [ua, b339, e335, e336, e337, e338, d340, nm, seval] <;> rfl) | rfl) ?_
   rintro tm ⟨e343, e344, e345, e346, e347, _⟩
   cases d348 : (r341)
   ·simp only [d348, hs] at h
    try simp only [vz, flr, tyf, b339, (ix24 o38), d340, e343, e344, e345, e346, e347, d348, nm, seval]
    rw [rnd_normal (by simp only [updH_apply, without_apply, b339, nm, seval] <;> rfl)]
    simp only [vz, flr, tyf, b339, (ix24 o38), d340, d348, e288, e289, e290, e291, e292, nm, seval]
    exact ⟨p277, Nat.lt_succ_self _, by rw [hI277]; refine ⟨p277, c277_9 + 1, c277_o0, c277_o1, true, c277_9, rfl, cnt_lo hi277, cnt_next hp277, rfl, (show 45 ≤ nx305 + 21 by omega), ?_, ?_, ?_, ?_, ?_, ?_, ?_, ?_, ?_, e288, e289, e290, e291, ?_, h⟩ <;> first | (simp only [ua, b339, d340, d348, e288, e289, e290, e291, e292, nm, seval] <;> rfl) | rfl⟩
   simp only [d348, hs] at h
   try simp only [vz, flr, tyf, b339, (ix24 o38), d340, e343, e344, e345, e346, e347, d348, nm, seval]
   rw [rnd_normal (by simp only [updH_apply, without_apply, b339, nm, seval] <;> rfl)]
   simp only [vz, flr, tyf, b339, (ix24 o38), d340, d348, e288, e289, e290, e291, e292, nm, seval]
   exact ⟨p277, Nat.lt_succ_self _, by rw [hI277]; refine ⟨p277, c277_9 + 1, c277_9, c305_o0, true, c277_9, rfl, cnt_lo hi277, cnt_next hp277, rfl, (show 45 ≤ nx305 + 24 by omega), ?_, ?_, ?_, ?_, ?_, ?_, ?_, ?_, ?_, e288, e289, e290, e291, ?_, h⟩ <;> first | (simp only [ua, b339, d340, d348, e288, e289, e290, e291, e292, nm, seval] <;> rfl) | rfl⟩
  | succ p305 =>
   have d349 : (decide (c305_8 < (IntKind.i64.wrap (x0_s.Length + 1)))) = true := cnt_lt hp305
   have w350 := cnt_wrap hi305 hp305 g278
   simp only [g_sight_Hang_l1, hs, reduceCtorEq] at h
   cases g352 : (boundOk x0_s.Width)
   ·simp only [g352, hs] at h
    exact absurd h kN305
   simp only [g352, hs] at h
   simp only [vz, flr, tyf, d27, d34, (ix24 o38), g278, n293, d301, w302, n329, n330, e325, e326, e327, e328, H306, H307, H308, H309, H310, H311, H312, H313, H314, H315, H316, H317, H318, H319, H320, H321, H322, H323, H324, d349, w350, g352, nm, seval]
   obtain ⟨K351, h, kR351, kG351, kB351, kN351⟩ := lbind_intro h kN305
   obtain ⟨f351, hf351, h⟩ := call3 h
   obtain ⟨I351, hI351⟩ : ∃ I : Nat → St → Prop, I = (fun m st => ∃ (p351 : Nat) (c351_13 : Int) (c351_o0 : Int), p351 = m ∧ loOk c351_13 = true ∧ Int.toNat (x0_s.Width - c351_13) = p351 ∧ st.df = [] ∧ nx305 + 6 ≤ st.nx ∧ st.H 24 = some (.cells (some 117) ([.lit (.int .i64 0)] ++ [.lit (.int .i64 0)])) ∧ st.H 27 = some (.cells (some 27) (cGSightStreet x0_s)) ∧ st.H 28 = some (.cells (some 40) ([.lit (.int .i64 c277_9)] ++ [.sl (cellsL cGSightLetter x37.Letters) (List.length x37.Letters) false])) ∧ st.H 32 = some (.cells (some 123) ([VV.fn (Fn.func 78) [] []])) ∧ st.H 33 = some (.cells (some 117) ([.lit (.int .i64 0)] ++ [.lit (.int .i64 0)])) ∧ st.H 35 = some (.cells (some 117) ([.lit (.int .i64 c277_o0)] ++ [.lit (.int .i64 c277_o1)])) ∧ st.H 36 = some (.cells (some 4) ([.lit (.bool c277_o2)])) ∧ st.H 39 = some (.deferred (some [])) ∧ st.H 40 = some LO276 ∧ st.H (nx277 + 10) = some (.cells (some 27) (cGSightStreet x0_s)) ∧ st.H (nx277 + 12) = some (.cells (some 3) ([.lit (.int .i64 c351_o0)])) ∧ st.H (nx277 + 24) = some (.cells (some 27) (cGSightStreet x0_s)) ∧ st.H (nx277 + 28) = some (.cells (some 108) ([VV.fn (Fn.func 126) [] [.ptr (nx277 + 24) 0]])) ∧ st.H (nx277 + 29) = some (.cells (some 100) ([VV.fn (Fn.func 108) [] [.ptr 27 0, .ptr 28 0]])) ∧ st.H (nx277 + 33) = some (.deferred (some [])) ∧ st.H (nx277 + 34) = some LO303 ∧ st.H (nx277 + 35) = some (.cells (some 100) ([.yl (nx277 + 34)])) ∧ st.H (nx277 + 37) = some (.deferred (some [])) ∧ st.H (nx277 + 38) = some LO304 ∧ st.tm 0 = .yl (nx277 + 38) ∧ st.tm 1 = .ptr (nx277 + 24) 0 ∧ st.tm 3 = .lit (.int .i64 c305_8) ∧ st.tm 7 = .lit (.int .i64 (IntKind.i64.wrap (x0_s.Length + 1))) ∧ st.tm 8 = .lit (.int .i64 c305_8) ∧ st.tm 12 = .lit (.int .i64 x0_s.Width) ∧ st.tm 13 = .lit (.int .i64 c351_13) ∧ K351 (f351 p351 c351_13 c351_o0)) := ⟨_, rfl⟩
   refine loopK mixed (by kernel_rfl) I351 (Int.toNat (x0_s.Width - 0)) (by rw [hI351]; refine ⟨Int.toNat (x0_s.Width - 0), 0, c305_o0, rfl, (by rfl), rfl, rfl, (show nx305 + 6 ≤ nx305 + 6 by omega), ?_, ?_, ?_, ?_, ?_, ?_, ?_, ?_, ?_, ?_, ?_, ?_, ?_, ?_, ?_, ?_, ?_, ?_, ?_, e325, e326, ?_, e327, e328, ?_, ?_, h⟩ <;> first | (simp only [ua, d27, d34, n293, d301, w302, n329, n330, e325, e326, e327, e328, H306, H307, H308, H309, H310, H311, H312, H313, H314, H315, H316, H317, H318, H319, H320, H321, H322, H323, H324, d349, w350, nm, seval] <;> rfl) | rfl) ?_
   rintro m ⟨tm, H, nx351, df⟩ hinv
   rw [hI351] at hinv
   obtain ⟨p351, c351_13, c351_o0, rfl, hi351, hp351, hdf, hn351, H353, H354, H355, H356, H357, H358, H359, H360, H361, H362, H363, H364, H365, H366, H367, H368, H369, H370, H371, e372, e373, e374, e375, e376, e377, e378, h⟩ := hinv
   simp only at hdf hn351 H353 H354 H355 H356 H357 H358 H359 H360 H361 H362 H363 H364 H365 H366 H367 H368 H369 H370 H371 e372 e373 e374 e375 e376 e377 e378
   have n379 := base_ne0 (m := 45) (b := nx351) (by omega)
   have n380 := base_ne (a := nx277) (m := 43) (b := nx351) (by omega)
   have n381 := base_ne (a := nx305) (m := 6) (b := nx351) (by omega)
   subst hdf hf351
   cases p351 with
   | zero =>
    have d382 : (decide (c351_13 < x0_s.Width)) = false := cnt_not_lt hp351
    simp only [g_sight_Hang_l2, hs, reduceCtorEq] at h
    replace h := kG351 _ h
    try dsimp only at h
    try simp only [hs] at h
    simp only [vz, flr, tyf, d27, d34, (ix24 o38), g278, n293, d301, w302, n329, n330, d349, w350, g352, n379, n380, n381, e372, e373, e374, e375, e376, e377, e378, H353, H354, H355, H356, H357, H358, H359, H360, H361, H362, H363, H364, H365, H366, H367, H368, H369, H370, H371, d382, nm, seval]
    exact ⟨p305, Nat.lt_succ_self _, by rw [hI305]; refine ⟨p305, c305_8 + 1, c351_o0, rfl, cnt_lo hi305, cnt_next hp305, rfl, (show nx277 + 43 ≤ nx351 + 3 by omega), ?_, ?_, ?_, ?_, ?_, ?_, ?_, ?_, ?_, ?_, ?_, ?_, ?_, ?_, ?_, ?_, ?_, ?_, ?_, e372, e373, e375, ?_, h⟩ <;> first | (simp only [ua, d27, d34, n293, d301, w302, n329, n330, d349, w350, n379, n380, n381, e372, e373, e374, e375, e376, e377, e378, H353, H354, H355, H356, H357, H358, H359, H360, H361, H362, H363, H364, H365, H366, H367, H368, H369, H370, H371, d382, nm, seval] <;> rfl) | rfl⟩
   | succ p351 =>
    have d383 : (decide (c351_13 < x0_s.Width)) = true := cnt_lt hp351
    have w384 := cnt_wrap hi351 hp351 g352
    simp only [g_sight_Hang_l2, hs, reduceCtorEq] at h
    try simp only [vz, flr, tyf, d27, d34, (ix24 o38), g278, n293, d301, w302, n329, n330, d349, w350, g352, n379, n380, n381, e372, e373, e374, e375, e376, e377, e378, H353, H354, H355, H356, H357, H358, H359, H360, H361, H362, H363, H364, H365, H366, H367, H368, H369, H370, H371, d383, w384, rg, nm, seval]
    refine yield_open mixed (psl := [6]) hLO304 (by simp only [updH_apply, without_apply, n293, n329, n330, n379, n380, n381, H353, H354, H355, H356, H357, H358, H359, H360, H361, H362, H363, H364, H365, H366, H367, H368, H369, H370, H371, nm, seval] <;> rfl) tmL_length rfl (by kernel_rfl) (by kernel_rfl) ?_
    intro LB385 LD385 hLB385 hLD385
    refine cwp_tmcut (fun tm => tm 2 = .ptr (nx277 + 29) 0 ∧ tm 3 = .ptr (nx277 + 35) 0 ∧ tm 6 = .agg ([.lit (.int .i64 c305_8)] ++ [.lit (.int .i64 (c351_13 + 1))]) ∧ True) (by refine ⟨?_, ?_, ?_, trivial⟩ <;> (simp only [round_tm, round_tm0, Tryz.ntmps127, e372, e373, e374, e375, e376, e377, e378, nm, seval] <;> first | rfl | trivial)) ?_
    rintro tm ⟨e386, e387, e388, _⟩
    have b389 := And.intro d27 (And.intro d34 (And.intro g278 (And.intro n293 (And.intro d301 (And.intro w302 (And.intro n329 (And.intro n330 (And.intro d349 (And.intro w350 (And.intro g352 (And.intro n379 (And.intro n380 (And.intro n381 (And.intro H353 (And.intro H354 (And.intro H355 (And.intro H356 (And.intro H357 (And.intro H358 (And.intro H359 (And.intro H360 (And.intro H361 (And.intro H362 (And.intro H363 (And.intro H364 (And.intro H365 (And.intro H366 (And.intro H367 (And.intro H368 (And.intro H369 (And.intro H370 (And.intro H371 (And.intro d383 w384)))))))))))))))))))))))))))))))))
    try simp only [vz, flr, tyf, b389, (ix24 o38), e386, e387, e388, nm, seval]
    rw [rndAs_normal (by simp only [updH_apply, without_apply, b389, nm, seval] <;> rfl)]
    try simp only [vz, flr, tyf, b389, (ix24 o38), e386, e387, e388, nm, seval]
    refine kopen ?_
    rw [openK_eq]
    refine VOpen.run mixed Tryz.call108 Tryz.func108 rfl (by simp [Tryz.ntmps108]; kernel_rfl) ?_
    rcases o391 : (g_sight_isSurelyRead x0_s (GSightBoard.mk c277_9 x37.Letters) (GSightPlace.mk c305_8 (c351_13 + 1))) with _ | r390
    ·simp only [o391, hs] at h
     exact absurd h kN351
    simp only [o391, hs] at h
    simp only [vz, flr, tyf, b389, (ix24 o38), nm, seval]
    refine ktree (args0 := [.agg (cGSightStreet x0_s), .agg (cGSightBoard (GSightBoard.mk c277_9 x37.Letters)), .agg (cGSightPlace (GSightPlace.mk c305_8 (c351_13 + 1)))]) (by first | (simp only [nrm, tynrm] <;> rfl) | rfl) (by simp only [tre, tytre, Bool.and_self]) (g_sight_isSurelyRead_ok _ _ _ _ o391) ?_
    refine fin_cut (fun tm => tm 8 = .lit (.bool r390) ∧ True) (by refine ⟨?_, trivial⟩ <;> first | (simp only [ua, b389, nm, seval] <;> rfl) | rfl) ?_
    rintro tm ⟨e392, _⟩
    try simp only [vz, flr, tyf, b389, (ix24 o38), e392, nm, seval]
    refine opd_ret (x := (.lit (.bool r390))) (by first | (simp only [Tryz.results108, resV, resL, resV1, tgt_ptr, tgt_tp, uw, cr, tyf, b389, (ix24 o38), nm, seval] <;> rfl) | rfl) ?_
    cases d393 : (r390)
    ·simp only [d393, hs] at h
     try simp only [vz, flr, tyf, b389, (ix24 o38), e386, e387, e388, d393, nm, seval]
     rw [rnd_normal (by simp only [updH_apply, without_apply, b389, nm, seval] <;> rfl)]
     simp only [vz, flr, tyf, b389, (ix24 o38), d393, e372, e373, e374, e375, e376, e377, e378, nm, seval]
     exact ⟨p351, Nat.lt_succ_self _, by rw [hI351]; refine ⟨p351, c351_13 + 1, c351_o0, rfl, cnt_lo hi351, cnt_next hp351, rfl, (show nx305 + 6 ≤ nx351 + 30 by omega), ?_, ?_, ?_, ?_, ?_, ?_, ?_, ?_, ?_, ?_, ?_, ?_, ?_, ?_, ?_, ?_, ?_, ?_, ?_, e372, e373, e374, e375, e376, e377, ?_, h⟩ <;> first | (simp only [ua, b389, d393, e372, e373, e374, e375, e376, e377, e378, nm, seval] <;> rfl) | rfl⟩
    simp only [d393, hs] at h
    try simp only [vz, flr, tyf, b389, (ix24 o38), e386, e387, e388, d393, rg, nm, seval]
    refine yield_open mixed (psl := [9]) hLO303 (by simp only [updH_apply, without_apply, b389, nm, seval] <;> rfl) tmL_length rfl (by kernel_rfl) (by kernel_rfl) ?_
    intro LB394 LD394 hLB394 hLD394
    refine cwp_tmcut (fun tm => tm 5 = .ptr (nx277 + 12) 0 ∧ True) (by refine ⟨?_, trivial⟩ <;> (simp only [round_tm, round_tm0, Tryz.ntmps57, e386, e387, e388, nm, seval] <;> first | rfl | trivial)) ?_
    rintro tm ⟨e395, _⟩
    try simp only [vz, flr, tyf, b389, (ix24 o38), d393, e395, nm, seval]
    rw [rndAs_normal (by simp only [updH_apply, without_apply, b389, nm, seval] <;> rfl)]
    try simp only [vz, flr, tyf, b389, (ix24 o38), d393, e395, nm, seval]
    rw [rnd_normal (by simp only [updH_apply, without_apply, b389, nm, seval] <;> rfl)]
    try simp only [vz, flr, tyf, b389, (ix24 o38), d393, e386, e387, e388, nm, seval]
    rw [rnd_normal (by simp only [updH_apply, without_apply, b389, nm, seval] <;> rfl)]
    simp only [vz, flr, tyf, b389, (ix24 o38), d393, e372, e373, e374, e375, e376, e377, e378, nm, seval]
    exact ⟨p351, Nat.lt_succ_self _, by rw [hI351]; refine ⟨p351, c351_13 + 1, IntKind.i64.wrap (c351_o0 + 1), rfl, cnt_lo hi351, cnt_next hp351, rfl, (show nx305 + 6 ≤ nx351 + 33 by omega), ?_, ?_, ?_, ?_, ?_, ?_, ?_, ?_, ?_, ?_, ?_, ?_, ?_, ?_, ?_, ?_, ?_, ?_, ?_, e372, e373, e374, e375, e376, e377, ?_, h⟩ <;> first | (simp only [ua, b389, d393, e372, e373, e374, e375, e376, e377, e378, nm, seval] <;> rfl) | rfl⟩
end Go.V
end
