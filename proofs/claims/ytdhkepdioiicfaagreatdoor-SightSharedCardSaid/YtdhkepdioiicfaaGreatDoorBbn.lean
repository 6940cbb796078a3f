/- Part of a proof: a logic of values by content, lifted functions, what follows. -/
import Derived.Test.YtdhkepdioiicfaaGreatDoorBbc
import Derived.Test.YtdhkepdioiicfaaGreatDoorBbk
import Derived.Test.YtdhkepdioiicfaaGreatDoorBbm
import Derived.Test.YtdhkepdioiicfaaGreatDoorBbf
set_option linter.all false
set_option maxRecDepth 4000
set_option maxHeartbeats 40000000
section
namespace Go.V
open Go Go.Proofs
def g_sight_Both_l3 (r5 : List (GSightPlace × Int)) (r7 : List (GSightPlace × Int)) (c2_8 : Int) : Nat → Int → Int → Int → Int → Int → Int → Option (LOut (Unit) (Int × Int × Int × Int × Int))
 | 0, c3_13, c3_o0, c3_o1, c3_o2, c3_o3, c3_o4 => some (.go (c3_o0, c3_o1, c3_o2, c3_o3, c3_o4))
 | k3 + 1, c3_13, c3_o0, c3_o1, c3_o2, c3_o3, c3_o4 => cond ((mapGet q34 0 r5 (GSightPlace.mk c2_8 (c3_13 + 1))) == 3) (cond ((mapGet q34 0 r7 (GSightPlace.mk c2_8 (c3_13 + 1))) == 3) (g_sight_Both_l3 r5 r7 c2_8 k3 (c3_13 + 1) c3_o0 c3_o1 c3_o2 c3_o3 (IntKind.i64.wrap (c3_o4 + 1))) (g_sight_Both_l3 r5 r7 c2_8 k3 (c3_13 + 1) c3_o0 c3_o1 c3_o2 c3_o3 c3_o4)) (g_sight_Both_l3 r5 r7 c2_8 k3 (c3_13 + 1) c3_o0 c3_o1 c3_o2 c3_o3 c3_o4)
def g_sight_Both_l2 (x0_s : GSightStreet) (r5 : List (GSightPlace × Int)) (r7 : List (GSightPlace × Int)) : Nat → Int → Int → Int → Int → Int → Int → Option (LOut (Unit) (Int × Int × Int × Int × Int))
 | 0, c2_8, c2_o0, c2_o1, c2_o2, c2_o3, c2_o4 => some (.go (c2_o0, c2_o1, c2_o2, c2_o3, c2_o4))
 | k2 + 1, c2_8, c2_o0, c2_o1, c2_o2, c2_o3, c2_o4 => lbind (g_sight_Both_l3 r5 r7 c2_8 (Int.toNat (x0_s.Width - 0)) 0 c2_o0 c2_o1 c2_o2 c2_o3 c2_o4) (fun r26 => some (.ret r26)) (fun c25 => g_sight_Both_l2 x0_s r5 r7 k2 (c2_8 + 1) c25.1 c25.2.1 c25.2.2.1 c25.2.2.2.1 c25.2.2.2.2) (fun _ _ => none)
def g_sight_Both_l1 (x0_s : GSightStreet) (r5 : List (GSightPlace × Int)) (r7 : List (GSightPlace × Int)) (c0_8 : Int) : Nat → Int → Int → Int → Int → Int → Option (LOut (Unit) (Int × Int × Int × Int))
 | 0, c1_13, c1_o0, c1_o1, c1_o2, c1_o3 => some (.go (c1_o0, c1_o1, c1_o2, c1_o3))
 | k1 + 1, c1_13, c1_o0, c1_o1, c1_o2, c1_o3 => cond ((mapGet q34 0 r5 (GSightPlace.mk c0_8 (c1_13 + 1))) == 3) (cond ((mapGet q34 0 r7 (GSightPlace.mk c0_8 (c1_13 + 1))) == 3) (lbind (g_sight_Both_l2 x0_s r5 r7 (Int.toNat ((IntKind.i64.wrap (x0_s.Length + 1)) - 0)) 0 c1_o0 c1_o1 c1_o2 c1_o3 0) (fun r28 => some (.brk 9 (c0_8, c1_13 + 1, 0, 0))) (fun c27 => some (.brk 9 (c0_8, c1_13 + 1, c27.2.2.2.2, 0))) (fun _ _ => none)) (g_sight_Both_l1 x0_s r5 r7 c0_8 k1 (c1_13 + 1) c1_o0 c1_o1 c1_o2 c1_o3)) (g_sight_Both_l1 x0_s r5 r7 c0_8 k1 (c1_13 + 1) c1_o0 c1_o1 c1_o2 c1_o3)
def g_sight_Both_l0 (x0_s : GSightStreet) (r5 : List (GSightPlace × Int)) (r7 : List (GSightPlace × Int)) : Nat → Int → Int → Int → Int → Int → Option (LOut (Unit) (Int × Int × Int × Int))
 | 0, c0_8, c0_o0, c0_o1, c0_o2, c0_o3 => some (.go (c0_o0, c0_o1, c0_o2, c0_o3))
 | k0 + 1, c0_8, c0_o0, c0_o1, c0_o2, c0_o3 => cond (boundOk x0_s.Width) (lbind (g_sight_Both_l1 x0_s r5 r7 c0_8 (Int.toNat (x0_s.Width - 0)) 0 c0_o0 c0_o1 c0_o2 c0_o3) (fun r30 => some (.ret r30)) (fun c29 => g_sight_Both_l0 x0_s r5 r7 k0 (c0_8 + 1) c29.1 c29.2.1 c29.2.2.1 c29.2.2.2) (fun _ c31 => some (.brk 9 (c31.1, c31.2.1, c31.2.2.1, c31.2.2.2)))) none
def g_sight_Both (x0_s : GSightStreet) (x1_one : Int) (x2_other : Int) : Option (GSightPlace × Int × Int) := Option.bind (g_sight_isStreet x0_s) (fun r1 => cond (r1) (Option.bind (g_sight_isBoard x0_s x1_one) (fun r2 => cond (r2) (Option.bind (g_sight_isBoard x0_s x2_other) (fun r3 => cond (r3) (cond (x1_one == x2_other) (some ((GSightPlace.mk 0 0), 0, 2)) (Option.bind (getI x0_s.Boards x1_one) (fun x4 => Option.bind (g_sight_readFrom x0_s x4) (fun r5 => Option.bind (getI x0_s.Boards x2_other) (fun x6 => Option.bind (g_sight_readFrom x0_s x6) (fun r7 => cond (boundOk (IntKind.i64.wrap (x0_s.Length + 1))) (lbind (g_sight_Both_l0 x0_s r5 r7 (Int.toNat ((IntKind.i64.wrap (x0_s.Length + 1)) - 0)) 0 0 0 0 0) (fun r33 => some ((GSightPlace.mk 0 0), 0, 5)) (fun c32 => some ((GSightPlace.mk 0 0), 0, 5)) (fun _ c34 => some ((GSightPlace.mk c34.1 c34.2.1), c34.2.2.1, c34.2.2.2))) none)))))) (some ((GSightPlace.mk 0 0), 0, 2)))) (some ((GSightPlace.mk 0 0), 0, 2)))) (some ((GSightPlace.mk 0 0), 0, 2)))
theorem g_sight_Both_ok (x0_s : GSightStreet) (x1_one : Int) (x2_other : Int) (R : GSightPlace × Int × Int) (h : g_sight_Both x0_s x1_one x2_other = some R) : VPure Tryz.prog G0 30 [.agg (cGSightStreet x0_s), .lit (.int .i64 x1_one), .lit (.int .i64 x2_other)] (.tree (.tup [.agg (cGSightPlace R.1), .lit (.int .i64 R.2.1), .lit (.int .i64 R.2.2)])) := by
 refine VPure.runR mixed Tryz.call30 Tryz.func30 rfl (by simp [Tryz.ntmps30]; kernel_rfl) ?_
 obtain ⟨KF, h, kF, kN⟩ := fun_intro h
 simp only [g_sight_Both] at h
 rcases o36 : (g_sight_isStreet x0_s) with _ | r35
 ·simp only [o36, hs] at h
  exact absurd h kN
 simp only [o36, hs] at h
 simp only [vz, mq, mqm, flr, tyf, mqt, nm, seval]
 refine ktree (args0 := [.agg (cGSightStreet x0_s)]) (by first | (simp only [nrm, tynrm] <;> rfl) | rfl) (by simp only [tre, tytre, Bool.and_self]) (g_sight_isStreet_ok _ _ o36) ?_
 refine fin_cut (fun tm => tm 1 = .lit (.int .i64 x1_one) ∧ tm 2 = .lit (.int .i64 x2_other) ∧ tm 3 = .ptr 0 0 ∧ tm 6 = .ptr 1 0 ∧ tm 7 = .ptr 2 0 ∧ tm 8 = .ptr 3 0 ∧ tm 14 = .lit (.bool r35) ∧ True) (by refine ⟨?_, ?_, ?_, ?_, ?_, ?_, ?_, trivial⟩ <;> first | (simp only [ua, encM_nil, nm, seval] <;> rfl) | rfl) ?_
 rintro tm ⟨e37, e38, e39, e40, e41, e42, e43, _⟩
 cases d44 : (r35)
 ·simp only [d44, hs] at h
  try simp only [vz, mq, mqm, flr, tyf, mqt, e37, e38, e39, e40, e41, e42, e43, d44, nm, seval]
  refine opd_ret (x := (.tup [.agg ([.lit (.int .i64 0)] ++ [.lit (.int .i64 0)]), .lit (.int .i64 0), .lit (.int .i64 2)])) (by first | (simp only [Tryz.results30, resV, resL, resV1, tgt_ptr, tgt_tp, uw, cr, tyf, mqt, e37, e38, e39, e40, e41, e42, e43, d44, nm, seval] <;> rfl) | rfl) ?_
  obtain rfl := kF _ h
  refine rr_tree ?_ ?_
  ·simp only [tre, tytre, Bool.and_self]
  ·first | (simp only [outV, uw, showV_ref, cr, tyf, mqt, nrm, tynrm, e37, e38, e39, e40, e41, e42, e43, d44, nm, seval] <;> rfl) | rfl
 simp only [d44, hs] at h
 rcases o46 : (g_sight_isBoard x0_s x1_one) with _ | r45
 ·simp only [o46, hs] at h
  exact absurd h kN
 simp only [o46, hs] at h
 simp only [vz, mq, mqm, flr, tyf, mqt, e37, e38, e39, e40, e41, e42, e43, d44, nm, seval]
 refine ktree (args0 := [.agg (cGSightStreet x0_s), .lit (.int .i64 x1_one)]) (by first | (simp only [nrm, tynrm] <;> rfl) | rfl) (by simp only [tre, tytre, Bool.and_self]) (g_sight_isBoard_ok _ _ _ o46) ?_
 refine fin_cut (fun tm => tm 1 = .lit (.int .i64 x1_one) ∧ tm 2 = .lit (.int .i64 x2_other) ∧ tm 3 = .ptr 0 0 ∧ tm 6 = .ptr 1 0 ∧ tm 7 = .ptr 2 0 ∧ tm 8 = .ptr 3 0 ∧ tm 16 = .lit (.bool false) ∧ tm 19 = .lit (.bool r45) ∧ True) (by refine ⟨e37, e38, e39, e40, e41, e42, ?_, ?_, trivial⟩ <;> first | (simp only [ua, encM_nil, e37, e38, e39, e40, e41, e42, e43, d44, nm, seval] <;> rfl) | rfl) ?_
 rintro tm ⟨e47, e48, e49, e50, e51, e52, e53, e54, _⟩
 cases d55 : (r45)
 ·simp only [d55, hs] at h
  try simp only [vz, mq, mqm, flr, tyf, mqt, d44, e47, e48, e49, e50, e51, e52, e53, e54, d55, nm, seval]
  refine opd_ret (x := (.tup [.agg ([.lit (.int .i64 0)] ++ [.lit (.int .i64 0)]), .lit (.int .i64 0), .lit (.int .i64 2)])) (by first | (simp only [Tryz.results30, resV, resL, resV1, tgt_ptr, tgt_tp, uw, cr, tyf, mqt, d44, e47, e48, e49, e50, e51, e52, e53, e54, d55, nm, seval] <;> rfl) | rfl) ?_
  obtain rfl := kF _ h
  refine rr_tree ?_ ?_
  ·simp only [tre, tytre, Bool.and_self]
  ·first | (simp only [outV, uw, showV_ref, cr, tyf, mqt, nrm, tynrm, d44, e47, e48, e49, e50, e51, e52, e53, e54, d55, nm, seval] <;> rfl) | rfl
 simp only [d55, hs] at h
 rcases o57 : (g_sight_isBoard x0_s x2_other) with _ | r56
 ·simp only [o57, hs] at h
  exact absurd h kN
 simp only [o57, hs] at h
 simp only [vz, mq, mqm, flr, tyf, mqt, d44, e47, e48, e49, e50, e51, e52, e53, e54, d55, nm, seval]
 refine ktree (args0 := [.agg (cGSightStreet x0_s), .lit (.int .i64 x2_other)]) (by first | (simp only [nrm, tynrm] <;> rfl) | rfl) (by simp only [tre, tytre, Bool.and_self]) (g_sight_isBoard_ok _ _ _ o57) ?_
 refine fin_cut (fun tm => tm 1 = .lit (.int .i64 x1_one) ∧ tm 2 = .lit (.int .i64 x2_other) ∧ tm 3 = .ptr 0 0 ∧ tm 6 = .ptr 1 0 ∧ tm 7 = .ptr 2 0 ∧ tm 8 = .ptr 3 0 ∧ tm 22 = .lit (.bool false) ∧ tm 25 = .lit (.bool r56) ∧ True) (by refine ⟨e47, e48, e49, e50, e51, e52, ?_, ?_, trivial⟩ <;> first | (simp only [ua, encM_nil, d44, e47, e48, e49, e50, e51, e52, e53, e54, d55, nm, seval] <;> rfl) | rfl) ?_
 rintro tm ⟨e58, e59, e60, e61, e62, e63, e64, e65, _⟩
 cases d66 : (r56)
 ·simp only [d66, hs] at h
  try simp only [vz, mq, mqm, flr, tyf, mqt, d44, d55, e58, e59, e60, e61, e62, e63, e64, e65, d66, nm, seval]
  refine opd_ret (x := (.tup [.agg ([.lit (.int .i64 0)] ++ [.lit (.int .i64 0)]), .lit (.int .i64 0), .lit (.int .i64 2)])) (by first | (simp only [Tryz.results30, resV, resL, resV1, tgt_ptr, tgt_tp, uw, cr, tyf, mqt, d44, d55, e58, e59, e60, e61, e62, e63, e64, e65, d66, nm, seval] <;> rfl) | rfl) ?_
  obtain rfl := kF _ h
  refine rr_tree ?_ ?_
  ·simp only [tre, tytre, Bool.and_self]
  ·first | (simp only [outV, uw, showV_ref, cr, tyf, mqt, nrm, tynrm, d44, d55, e58, e59, e60, e61, e62, e63, e64, e65, d66, nm, seval] <;> rfl) | rfl
 simp only [d66, hs] at h
 cases d67 : (x1_one == x2_other)
 ·simp only [d67, hs] at h
  simp only [vz, mq, mqm, flr, tyf, mqt, d44, d55, e58, e59, e60, e61, e62, e63, e64, e65, d66, d67, nm, seval]
  refine cwp_drawTF (fun tm => tm 1 = .lit (.int .i64 x1_one) ∧ tm 2 = .lit (.int .i64 x2_other) ∧ tm 3 = .ptr 0 0 ∧ tm 6 = .ptr 1 0 ∧ tm 7 = .ptr 2 0 ∧ tm 8 = .ptr 3 0 ∧ True) (by refine ⟨e58, e59, e60, e61, e62, e63, trivial⟩ <;> first | (simp only [ua, encM_nil, d44, d55, e58, e59, e60, e61, e62, e63, e64, e65, d66, d67, nm, seval] <;> rfl) | rfl) ?_
  rintro tm ⟨e68, e69, e70, e71, e72, e73, _⟩
  rcases o75 : (getI x0_s.Boards x1_one) with _ | x74
  ·simp only [o75, hs] at h
   exact absurd h kN
  simp only [o75, hs] at h
  rcases o77 : (g_sight_readFrom x0_s x74) with _ | r76
  ·simp only [o77, hs] at h
   exact absurd h kN
  simp only [o77, hs] at h
  simp only [vz, mq, mqm, flr, tyf, mqt, d44, d55, d66, d67, e68, e69, e70, e71, e72, e73, (ix24 o75), nm, seval]
  refine dktree (args0 := [.agg (cGSightStreet x0_s), .agg (cGSightBoard x74)]) (by first | (simp only [nrm, tynrm] <;> rfl) | rfl) (by simp only [tre, tytre, Bool.and_self]) (g_sight_readFrom_ok _ _ _ o77) ?_
  refine fin_cut (fun tm => tm 2 = .lit (.int .i64 x2_other) ∧ tm 3 = .ptr 0 0 ∧ tm 6 = .ptr 1 0 ∧ tm 7 = .ptr 2 0 ∧ tm 8 = .ptr 3 0 ∧ tm 40 = .mt (mtK kv34 r76) (mtV ev46 r76) ∧ True) (by refine ⟨e69, e70, e71, e72, e73, ?_, trivial⟩ <;> first | (simp only [ua, encM_nil, d44, d55, d66, d67, e68, e69, e70, e71, e72, e73, nm, seval] <;> rfl) | rfl) ?_
  rintro tm ⟨e78, e79, e80, e81, e82, e83, _⟩
  rcases o85 : (getI x0_s.Boards x2_other) with _ | x84
  ·simp only [o85, hs] at h
   exact absurd h kN
  simp only [o85, hs] at h
  rcases o87 : (g_sight_readFrom x0_s x84) with _ | r86
  ·simp only [o87, hs] at h
   exact absurd h kN
  simp only [o87, hs] at h
  simp only [vz, mq, mqm, flr, tyf, mqt, d44, d55, d66, d67, (ix24 o75), e78, e79, e80, e81, e82, e83, (ix24 o85), nm, seval]
  refine dktree (args0 := [.agg (cGSightStreet x0_s), .agg (cGSightBoard x84)]) (by first | (simp only [nrm, tynrm] <;> rfl) | rfl) (by simp only [tre, tytre, Bool.and_self]) (g_sight_readFrom_ok _ _ _ o87) ?_
  refine fin_cut (fun tm => tm 3 = .ptr 0 0 ∧ tm 6 = .ptr 1 0 ∧ tm 7 = .ptr 2 0 ∧ tm 8 = .ptr 3 0 ∧ tm 40 = .mt (mtK kv34 r76) (mtV ev46 r76) ∧ tm 47 = .mt (mtK kv34 r86) (mtV ev46 r86) ∧ True) (by refine ⟨e79, e80, e81, e82, e83, ?_, trivial⟩ <;> first | (simp only [ua, encM_nil, d44, d55, d66, d67, e78, e79, e80, e81, e82, e83, nm, seval] <;> rfl) | rfl) ?_
  rintro tm ⟨e88, e89, e90, e91, e92, e93, _⟩
  simp only [vz, mq, mqm, flr, tyf, mqt, d44, d55, d66, d67, (ix24 o75), (ix24 o85), e88, e89, e90, e91, e92, e93, nm, seval]
  refine drawK_nil ⟨?_, ?_⟩
  ·simp only [traceR_cons, traceR_nil, hitK_quiet, hitK_nil, and_true, true_and]
   repeat' (first | exact trivial | refine And.intro ?_ ?_ | rw [hitK_quiet] | rw [hitK_cons] | exact Or.inl (by decide +kernel) | exact Or.inl (by dsimp only; decide +kernel) | (refine Or.inr ⟨?_, ?_⟩ <;> simp; done) | (refine Or.inr ⟨?_, ?_⟩ <;> simp <;> omega) | (refine Or.inr ⟨?_, ?_⟩ <;> simp [VEff.wr] <;> omega))
  try simp only [vz, mq, mqm, flr, tyf, mqt, d44, d55, d66, d67, (ix24 o75), (ix24 o85), e88, e89, e90, e91, e92, e93, nm, seval]
  refine kopen ?_
  rw [openK_eq]
  refine VOpen.run mixed Tryz.call64 Tryz.func64 rfl (by simp [Tryz.ntmps64]; kernel_rfl) ?_
  try simp only [vz, mq, mqm, flr, tyf, mqt, d44, d55, d66, d67, (ix24 o75), (ix24 o85), nm, seval]
  refine kopen ?_
  rw [openK_eq]
  refine VOpen.run mixed Tryz.call98 Tryz.func98 rfl (by simp [Tryz.ntmps98]; kernel_rfl) ?_
  try simp only [vz, mq, mqm, flr, tyf, mqt, d44, d55, d66, d67, (ix24 o75), (ix24 o85), nm, seval]
  refine opd_ret (x := (VV.fn (Fn.func 126) [] [.ptr 55 0])) (by first | (simp only [Tryz.results98, resV, resL, resV1, tgt_ptr, tgt_tp, uw, cr, tyf, mqt, d44, d55, d66, d67, (ix24 o75), (ix24 o85), nm, seval] <;> rfl) | rfl) ?_
  try simp only [vz, mq, mqm, flr, tyf, mqt, d44, d55, d66, d67, (ix24 o75), (ix24 o85), nm, seval]
  refine kopen ?_
  rw [openK_eq]
  refine VOpen.run mixed Tryz.call100 Tryz.func100 rfl (by simp [Tryz.ntmps100]; kernel_rfl) ?_
  try simp only [vz, mq, mqm, flr, tyf, mqt, d44, d55, d66, d67, (ix24 o75), (ix24 o85), nm, seval]
  refine opd_ret (x := (VV.fn (Fn.func 127) [] [.ptr 59 0, .ptr 60 0])) (by first | (simp only [Tryz.results100, resV, resL, resV1, tgt_ptr, tgt_tp, uw, cr, tyf, mqt, d44, d55, d66, d67, (ix24 o75), (ix24 o85), nm, seval] <;> rfl) | rfl) ?_
  try simp only [vz, mq, mqm, flr, tyf, mqt, d44, d55, d66, d67, (ix24 o75), (ix24 o85), nm, seval]
  refine opd_ret (x := (VV.fn (Fn.func 127) [] [.ptr 59 0, .ptr 60 0])) (by first | (simp only [Tryz.results64, resV, resL, resV1, tgt_ptr, tgt_tp, uw, cr, tyf, mqt, d44, d55, d66, d67, (ix24 o75), (ix24 o85), nm, seval] <;> rfl) | rfl) ?_
  try simp only [vz, mq, mqm, flr, tyf, mqt, d44, d55, d66, d67, (ix24 o75), (ix24 o85), e88, e89, e90, e91, e92, e93, nm, seval]
  refine range_open (f := 127) (first := []) (captured := [.ptr 59 0, .ptr 60 0]) (by first | (simp only [ev_tmp, ev_func, d44, d55, d66, d67, (ix24 o75), (ix24 o85), e88, e89, e90, e91, e92, e93, upd_apply, nm, seval] <;> rfl) | rfl) ?_
  intro LO94 hLO94
  refine VOpen.run mixed Tryz.call127 Tryz.func127 rfl (by simp [Tryz.ntmps127]; kernel_rfl) ?_
  try simp only [vz, mq, mqm, flr, tyf, mqt, d44, d55, d66, d67, (ix24 o75), (ix24 o85), nm, seval]
  refine range_open (f := 126) (first := []) (captured := [.ptr 55 0]) (by first | (simp only [ev_tmp, ev_func, d44, d55, d66, d67, (ix24 o75), (ix24 o85), upd_apply, nm, seval] <;> rfl) | rfl) ?_
  intro LO95 hLO95
  refine VOpen.run mixed Tryz.call126 Tryz.func126 rfl (by simp [Tryz.ntmps126]; kernel_rfl) ?_
  cases g97 : (boundOk (IntKind.i64.wrap (x0_s.Length + 1)))
  ·simp only [g97, hs] at h
   exact absurd h kN
  simp only [g97, hs] at h
  simp only [vz, mq, mqm, flr, tyf, mqt, d44, d55, d66, d67, (ix24 o75), (ix24 o85), g97, nm, seval]
  obtain ⟨K96, h, kR96, kG96, kB96, kN96⟩ := lbind_intro h kN
  obtain ⟨f96, hf96, h⟩ := call6 h
  obtain ⟨I96, hI96⟩ : ∃ I : Nat → St → Prop, I = (fun m st => ∃ (p96 : Nat) (c96_8 : Int) (c96_o0 : Int) (c96_o1 : Int) (c96_o2 : Int) (c96_o3 : Int), p96 = m ∧ loOk c96_8 = true ∧ Int.toNat ((IntKind.i64.wrap (x0_s.Length + 1)) - c96_8) = p96 ∧ st.df = [] ∧ 74 ≤ st.nx ∧ st.H 0 = some (.cells (some 27) (cGSightStreet x0_s)) ∧ st.H 1 = some (.cells (some 34) ([.lit (.int .i64 c96_o0)] ++ [.lit (.int .i64 c96_o1)])) ∧ st.H 2 = some (.cells (some 3) ([.lit (.int .i64 c96_o2)])) ∧ st.H 3 = some (.cells (some 30) ([.lit (.int .i64 c96_o3)])) ∧ st.H 38 = some (.cells (some 97) ([.mt (mtK kv34 r76) (mtV ev46 r76)])) ∧ st.H 39 = some (.cells (some 97) ([.mt (mtK kv34 r86) (mtV ev46 r86)])) ∧ st.H 43 = some (.cells (some 100) ([VV.fn (Fn.func 75) [] [.ptr 38 0, .ptr 39 0]])) ∧ st.H 55 = some (.cells (some 27) (cGSightStreet x0_s)) ∧ st.H 59 = some (.cells (some 108) ([VV.fn (Fn.func 126) [] [.ptr 55 0]])) ∧ st.H 60 = some (.cells (some 100) ([VV.fn (Fn.func 75) [] [.ptr 38 0, .ptr 39 0]])) ∧ st.H 64 = some (.deferred (some [])) ∧ st.H 65 = some LO94 ∧ st.H 66 = some (.cells (some 100) ([.yl 65])) ∧ st.H 68 = some (.deferred (some [])) ∧ st.H 69 = some LO95 ∧ st.tm 0 = .yl 69 ∧ st.tm 1 = .ptr 55 0 ∧ st.tm 7 = .lit (.int .i64 (IntKind.i64.wrap (x0_s.Length + 1))) ∧ st.tm 8 = .lit (.int .i64 c96_8) ∧ K96 (f96 p96 c96_8 c96_o0 c96_o1 c96_o2 c96_o3)) := ⟨_, rfl⟩
  refine loopK mixed (by kernel_rfl) I96 (Int.toNat ((IntKind.i64.wrap (x0_s.Length + 1)) - 0)) (by rw [hI96]; refine ⟨Int.toNat ((IntKind.i64.wrap (x0_s.Length + 1)) - 0), 0, 0, 0, 0, 0, rfl, (by rfl), rfl, rfl, (show 74 ≤ 74 by omega), ?_, ?_, ?_, ?_, ?_, ?_, ?_, ?_, ?_, ?_, ?_, ?_, ?_, ?_, ?_, ?_, ?_, ?_, ?_, h⟩ <;> first | (simp only [ua, encM_nil, d44, d55, d66, d67, nm, seval] <;> rfl) | rfl) ?_
  rintro m ⟨tm, H, nx96, df⟩ hinv
  rw [hI96] at hinv
  obtain ⟨p96, c96_8, c96_o0, c96_o1, c96_o2, c96_o3, rfl, hi96, hp96, hdf, hn96, H98, H99, H100, H101, H102, H103, H104, H105, H106, H107, H108, H109, H110, H111, H112, e113, e114, e115, e116, h⟩ := hinv
  simp only at hdf hn96 H98 H99 H100 H101 H102 H103 H104 H105 H106 H107 H108 H109 H110 H111 H112 e113 e114 e115 e116
  have n117 := base_ne0 (m := 74) (b := nx96) (by omega)
  subst hdf hf96
  cases p96 with
  | zero =>
   have d118 : (decide (c96_8 < (IntKind.i64.wrap (x0_s.Length + 1)))) = false := cnt_not_lt hp96
   simp only [g_sight_Both_l0, hs, reduceCtorEq] at h
   replace h := kG96 _ h
   try dsimp only at h
   try simp only [hs] at h
   try simp only [vz, mq, mqm, flr, tyf, mqt, d44, d55, d66, d67, (ix24 o75), (ix24 o85), g97, n117, e113, e114, e115, e116, H98, H99, H100, H101, H102, H103, H104, H105, H106, H107, H108, H109, H110, H111, H112, d118, nm, seval]
   refine opd_normal (x := .tup []) (by simp [Tryz.results126, resV, resL]) ?_
   refine rangeEnd_go hLO95 (by simp only [updH_apply, without_apply, n117, H98, H99, H100, H101, H102, H103, H104, H105, H106, H107, H108, H109, H110, H111, H112, nm, seval] <;> rfl) ?_
   intro LX119
   try simp only [vz, mq, mqm, flr, tyf, mqt, d44, d55, d66, d67, (ix24 o75), (ix24 o85), g97, n117, H98, H99, H100, H101, H102, H103, H104, H105, H106, H107, H108, H109, H110, H111, H112, d118, nm, seval]
   refine opd_collN (by simp only [updH_apply, without_apply, n117, H98, H99, H100, H101, H102, H103, H104, H105, H106, H107, H108, H109, H110, H111, H112, nm, seval] <;> rfl) ?_
   try simp only [vz, mq, mqm, flr, tyf, mqt, d44, d55, d66, d67, (ix24 o75), (ix24 o85), g97, n117, H98, H99, H100, H101, H102, H103, H104, H105, H106, H107, H108, H109, H110, H111, H112, d118, nm, seval]
   refine opd_normal (x := .tup []) (by simp [Tryz.results127, resV, resL]) ?_
   refine rangeEnd_go hLO94 (by simp only [updH_apply, without_apply, n117, H98, H99, H100, H101, H102, H103, H104, H105, H106, H107, H108, H109, H110, H111, H112, nm, seval] <;> rfl) ?_
   intro LX120
   try simp only [vz, mq, mqm, flr, tyf, mqt, d44, d55, d66, d67, (ix24 o75), (ix24 o85), g97, n117, H98, H99, H100, H101, H102, H103, H104, H105, H106, H107, H108, H109, H110, H111, H112, d118, e88, e89, e90, e91, e92, e93, nm, seval]
   refine opd_coll (by simp only [updH_apply, without_apply, n117, H98, H99, H100, H101, H102, H103, H104, H105, H106, H107, H108, H109, H110, H111, H112, nm, seval] <;> rfl) ?_
   try simp only [vz, mq, mqm, flr, tyf, mqt, d44, d55, d66, d67, (ix24 o75), (ix24 o85), g97, n117, H98, H99, H100, H101, H102, H103, H104, H105, H106, H107, H108, H109, H110, H111, H112, d118, e88, e89, e90, e91, e92, e93, nm, seval]
   refine opd_ret (x := (.tup [.agg ([.lit (.int .i64 0)] ++ [.lit (.int .i64 0)]), .lit (.int .i64 0), .lit (.int .i64 5)])) (by first | (simp only [Tryz.results30, resV, resL, resV1, tgt_ptr, tgt_tp, uw, cr, tyf, mqt, d44, d55, d66, d67, (ix24 o75), (ix24 o85), g97, n117, H98, H99, H100, H101, H102, H103, H104, H105, H106, H107, H108, H109, H110, H111, H112, d118, e88, e89, e90, e91, e92, e93, nm, seval] <;> rfl) | rfl) ?_
   obtain rfl := kF _ h
   refine rr_tree ?_ ?_
   ·simp only [tre, tytre, Bool.and_self]
   ·first | (simp only [outV, uw, showV_ref, cr, tyf, mqt, nrm, tynrm, d44, d55, d66, d67, (ix24 o75), (ix24 o85), g97, n117, H98, H99, H100, H101, H102, H103, H104, H105, H106, H107, H108, H109, H110, H111, H112, d118, e88, e89, e90, e91, e92, e93, nm, seval] <;> rfl) | rfl
  | succ p96 =>
   have d121 : (decide (c96_8 < (IntKind.i64.wrap (x0_s.Length + 1)))) = true := cnt_lt hp96
   have w122 := cnt_wrap hi96 hp96 g97
   simp only [g_sight_Both_l0, hs, reduceCtorEq] at h
   cases g124 : (boundOk x0_s.Width)
   ·simp only [g124, hs] at h
    exact absurd h kN96
   simp only [g124, hs] at h
   simp only [vz, mq, mqm, flr, tyf, mqt, d44, d55, d66, d67, (ix24 o75), (ix24 o85), g97, n117, e113, e114, e115, e116, H98, H99, H100, H101, H102, H103, H104, H105, H106, H107, H108, H109, H110, H111, H112, d121, w122, g124, nm, seval]
   obtain ⟨K123, h, kR123, kG123, kB123, kN123⟩ := lbind_intro h kN96
   obtain ⟨f123, hf123, h⟩ := call6 h
   obtain ⟨I123, hI123⟩ : ∃ I : Nat → St → Prop, I = (fun m st => ∃ (p123 : Nat) (c123_13 : Int) (c123_o0 : Int) (c123_o1 : Int) (c123_o2 : Int) (c123_o3 : Int), p123 = m ∧ loOk c123_13 = true ∧ Int.toNat (x0_s.Width - c123_13) = p123 ∧ st.df = [] ∧ nx96 + 6 ≤ st.nx ∧ st.H 0 = some (.cells (some 27) (cGSightStreet x0_s)) ∧ st.H 1 = some (.cells (some 34) ([.lit (.int .i64 c123_o0)] ++ [.lit (.int .i64 c123_o1)])) ∧ st.H 2 = some (.cells (some 3) ([.lit (.int .i64 c123_o2)])) ∧ st.H 3 = some (.cells (some 30) ([.lit (.int .i64 c123_o3)])) ∧ st.H 38 = some (.cells (some 97) ([.mt (mtK kv34 r76) (mtV ev46 r76)])) ∧ st.H 39 = some (.cells (some 97) ([.mt (mtK kv34 r86) (mtV ev46 r86)])) ∧ st.H 43 = some (.cells (some 100) ([VV.fn (Fn.func 75) [] [.ptr 38 0, .ptr 39 0]])) ∧ st.H 55 = some (.cells (some 27) (cGSightStreet x0_s)) ∧ st.H 59 = some (.cells (some 108) ([VV.fn (Fn.func 126) [] [.ptr 55 0]])) ∧ st.H 60 = some (.cells (some 100) ([VV.fn (Fn.func 75) [] [.ptr 38 0, .ptr 39 0]])) ∧ st.H 64 = some (.deferred (some [])) ∧ st.H 65 = some LO94 ∧ st.H 66 = some (.cells (some 100) ([.yl 65])) ∧ st.H 68 = some (.deferred (some [])) ∧ st.H 69 = some LO95 ∧ st.tm 0 = .yl 69 ∧ st.tm 1 = .ptr 55 0 ∧ st.tm 3 = .lit (.int .i64 c96_8) ∧ st.tm 7 = .lit (.int .i64 (IntKind.i64.wrap (x0_s.Length + 1))) ∧ st.tm 8 = .lit (.int .i64 c96_8) ∧ st.tm 12 = .lit (.int .i64 x0_s.Width) ∧ st.tm 13 = .lit (.int .i64 c123_13) ∧ K123 (f123 p123 c123_13 c123_o0 c123_o1 c123_o2 c123_o3)) := ⟨_, rfl⟩
   refine loopK mixed (by kernel_rfl) I123 (Int.toNat (x0_s.Width - 0)) (by rw [hI123]; refine ⟨Int.toNat (x0_s.Width - 0), 0, c96_o0, c96_o1, c96_o2, c96_o3, rfl, (by rfl), rfl, rfl, (show nx96 + 6 ≤ nx96 + 6 by omega), ?_, ?_, ?_, ?_, ?_, ?_, ?_, ?_, ?_, ?_, ?_, ?_, ?_, ?_, ?_, e113, e114, ?_, e115, e116, ?_, ?_, h⟩ <;> first | (simp only [ua, encM_nil, d44, d55, d66, d67, n117, e113, e114, e115, e116, H98, H99, H100, H101, H102, H103, H104, H105, H106, H107, H108, H109, H110, H111, H112, d121, w122, nm, seval] <;> rfl) | rfl) ?_
   rintro m ⟨tm, H, nx123, df⟩ hinv
   rw [hI123] at hinv
   obtain ⟨p123, c123_13, c123_o0, c123_o1, c123_o2, c123_o3, rfl, hi123, hp123, hdf, hn123, H125, H126, H127, H128, H129, H130, H131, H132, H133, H134, H135, H136, H137, H138, H139, e140, e141, e142, e143, e144, e145, e146, h⟩ := hinv
   simp only at hdf hn123 H125 H126 H127 H128 H129 H130 H131 H132 H133 H134 H135 H136 H137 H138 H139 e140 e141 e142 e143 e144 e145 e146
   have n147 := base_ne0 (m := 74) (b := nx123) (by omega)
   have n148 := base_ne (a := nx96) (m := 6) (b := nx123) (by omega)
   subst hdf hf123
   cases p123 with
   | zero =>
    have d149 : (decide (c123_13 < x0_s.Width)) = false := cnt_not_lt hp123
    simp only [g_sight_Both_l1, hs, reduceCtorEq] at h
    replace h := kG123 _ h
    try dsimp only at h
    try simp only [hs] at h
    simp only [vz, mq, mqm, flr, tyf, mqt, d44, d55, d66, d67, (ix24 o75), (ix24 o85), g97, n117, d121, w122, g124, n147, n148, e140, e141, e142, e143, e144, e145, e146, H125, H126, H127, H128, H129, H130, H131, H132, H133, H134, H135, H136, H137, H138, H139, d149, nm, seval]
    exact ⟨p96, Nat.lt_succ_self _, by rw [hI96]; refine ⟨p96, c96_8 + 1, c123_o0, c123_o1, c123_o2, c123_o3, rfl, cnt_lo hi96, cnt_next hp96, rfl, (show 74 ≤ nx123 + 3 by omega), ?_, ?_, ?_, ?_, ?_, ?_, ?_, ?_, ?_, ?_, ?_, ?_, ?_, ?_, ?_, e140, e141, e143, ?_, h⟩ <;> first | (simp only [ua, encM_nil, d44, d55, d66, d67, n117, d121, w122, n147, n148, e140, e141, e142, e143, e144, e145, e146, H125, H126, H127, H128, H129, H130, H131, H132, H133, H134, H135, H136, H137, H138, H139, d149, nm, seval] <;> rfl) | rfl⟩
   | succ p123 =>
    have d150 : (decide (c123_13 < x0_s.Width)) = true := cnt_lt hp123
    have w151 := cnt_wrap hi123 hp123 g124
    simp only [g_sight_Both_l1, hs, reduceCtorEq] at h
    try simp only [vz, mq, mqm, flr, tyf, mqt, d44, d55, d66, d67, (ix24 o75), (ix24 o85), g97, n117, d121, w122, g124, n147, n148, e140, e141, e142, e143, e144, e145, e146, H125, H126, H127, H128, H129, H130, H131, H132, H133, H134, H135, H136, H137, H138, H139, d150, w151, rg, nm, seval]
    refine yield_open mixed (psl := [6]) hLO95 (by simp only [updH_apply, without_apply, n117, n147, n148, H125, H126, H127, H128, H129, H130, H131, H132, H133, H134, H135, H136, H137, H138, H139, nm, seval] <;> rfl) tmL_length rfl (by kernel_rfl) (by kernel_rfl) ?_
    intro LB152 LD152 hLB152 hLD152
    refine cwp_tmcut (fun tm => tm 2 = .ptr 60 0 ∧ tm 3 = .ptr 66 0 ∧ tm 6 = .agg ([.lit (.int .i64 c96_8)] ++ [.lit (.int .i64 (c123_13 + 1))]) ∧ True) (by refine ⟨?_, ?_, ?_, trivial⟩ <;> (simp only [round_tm, round_tm0, Tryz.ntmps127, e140, e141, e142, e143, e144, e145, e146, nm, seval] <;> first | rfl | trivial)) ?_
    rintro tm ⟨e153, e154, e155, _⟩
    have b156 := And.intro d44 (And.intro d55 (And.intro d66 (And.intro d67 (And.intro g97 (And.intro n117 (And.intro d121 (And.intro w122 (And.intro g124 (And.intro n147 (And.intro n148 (And.intro H125 (And.intro H126 (And.intro H127 (And.intro H128 (And.intro H129 (And.intro H130 (And.intro H131 (And.intro H132 (And.intro H133 (And.intro H134 (And.intro H135 (And.intro H136 (And.intro H137 (And.intro H138 (And.intro H139 (And.intro d150 w151))))))))))))))))))))))))))
    try simp only [vz, mq, mqm, flr, tyf, mqt, b156, (ix24 o75), (ix24 o85), e153, e154, e155, nm, seval]
    rw [rndAs_normal (by simp only [updH_apply, without_apply, b156, nm, seval] <;> rfl)]
    try simp only [vz, mq, mqm, flr, tyf, mqt, b156, (ix24 o75), (ix24 o85), e153, e154, e155, nm, seval]
    refine kopen ?_
    rw [openK_eq]
    refine VOpen.run mixed Tryz.call75 Tryz.func75 rfl (by simp [Tryz.ntmps75]; kernel_rfl) ?_
    cases d157 : ((mapGet q34 0 r76 (GSightPlace.mk c96_8 (c123_13 + 1))) == 3)
    ·simp only [d157, hs] at h
     try simp only [vz, mq, mqm, flr, tyf, mqt, b156, (ix24 o75), (ix24 o85), d157, nm, seval]
     refine opd_ret (x := (.lit (.bool false))) (by first | (simp only [Tryz.results75, resV, resL, resV1, tgt_ptr, tgt_tp, uw, cr, tyf, mqt, b156, (ix24 o75), (ix24 o85), d157, nm, seval] <;> rfl) | rfl) ?_
     try simp only [vz, mq, mqm, flr, tyf, mqt, b156, (ix24 o75), (ix24 o85), d157, e153, e154, e155, nm, seval]
     rw [rnd_normal (by simp only [updH_apply, without_apply, b156, nm, seval] <;> rfl)]
     simp only [vz, mq, mqm, flr, tyf, mqt, b156, (ix24 o75), (ix24 o85), d157, e140, e141, e142, e143, e144, e145, e146, nm, seval]
     exact ⟨p123, Nat.lt_succ_self _, by rw [hI123]; refine ⟨p123, c123_13 + 1, c123_o0, c123_o1, c123_o2, c123_o3, rfl, cnt_lo hi123, cnt_next hp123, rfl, (show nx96 + 6 ≤ nx123 + 36 by omega), ?_, ?_, ?_, ?_, ?_, ?_, ?_, ?_, ?_, ?_, ?_, ?_, ?_, ?_, ?_, e140, e141, e142, e143, e144, e145, ?_, h⟩ <;> first | (simp only [ua, encM_nil, b156, d157, e140, e141, e142, e143, e144, e145, e146, nm, seval] <;> rfl) | rfl⟩
    simp only [d157, hs] at h
    try simp only [vz, mq, mqm, flr, tyf, mqt, b156, (ix24 o75), (ix24 o85), d157, nm, seval]
    refine opd_ret (x := (.lit (.bool ((mapGet q34 0 r86 (GSightPlace.mk c96_8 (c123_13 + 1))) == 3)))) (by first | (simp only [Tryz.results75, resV, resL, resV1, tgt_ptr, tgt_tp, uw, cr, tyf, mqt, b156, (ix24 o75), (ix24 o85), d157, nm, seval] <;> rfl) | rfl) ?_
    cases d158 : ((mapGet q34 0 r86 (GSightPlace.mk c96_8 (c123_13 + 1))) == 3)
    ·simp only [d158, hs] at h
     try simp only [vz, mq, mqm, flr, tyf, mqt, b156, (ix24 o75), (ix24 o85), d157, e153, e154, e155, d158, nm, seval]
     rw [rnd_normal (by simp only [updH_apply, without_apply, b156, nm, seval] <;> rfl)]
     simp only [vz, mq, mqm, flr, tyf, mqt, b156, (ix24 o75), (ix24 o85), d157, d158, e140, e141, e142, e143, e144, e145, e146, nm, seval]
     exact ⟨p123, Nat.lt_succ_self _, by rw [hI123]; refine ⟨p123, c123_13 + 1, c123_o0, c123_o1, c123_o2, c123_o3, rfl, cnt_lo hi123, cnt_next hp123, rfl, (show nx96 + 6 ≤ nx123 + 36 by omega), ?_, ?_, ?_, ?_, ?_, ?_, ?_, ?_, ?_, ?_, ?_, ?_, ?_, ?_, ?_, e140, e141, e142, e143, e144, e145, ?_, h⟩ <;> first | (simp only [ua, encM_nil, b156, d157, d158, e140, e141, e142, e143, e144, e145, e146, nm, seval] <;> rfl) | rfl⟩
    simp only [d158, hs] at h
    try simp only [vz, mq, mqm, flr, tyf, mqt, b156, (ix24 o75), (ix24 o85), d157, e153, e154, e155, d158, rg, nm, seval]
    refine yield_open mixed (psl := [52]) hLO94 (by simp only [updH_apply, without_apply, b156, nm, seval] <;> rfl) tmL_length rfl (by kernel_rfl) (by kernel_rfl) ?_
    intro LB159 LD159 hLB159 hLD159
    refine cwp_tmcut (fun tm => tm 3 = .ptr 0 0 ∧ tm 6 = .ptr 1 0 ∧ tm 7 = .ptr 2 0 ∧ tm 8 = .ptr 3 0 ∧ tm 11 = .ptr 43 0 ∧ tm 52 = .agg ([.lit (.int .i64 c96_8)] ++ [.lit (.int .i64 (c123_13 + 1))]) ∧ True) (by refine ⟨?_, ?_, ?_, ?_, ?_, ?_, trivial⟩ <;> (simp only [round_tm, round_tm0, Tryz.ntmps30, e88, e89, e90, e91, e92, e93, e153, e154, e155, nm, seval] <;> first | rfl | trivial)) ?_
    rintro tm ⟨e160, e161, e162, e163, e164, e165, _⟩
    try simp only [vz, mq, mqm, flr, tyf, mqt, b156, (ix24 o75), (ix24 o85), d157, d158, e160, e161, e162, e163, e164, e165, nm, seval]
    rw [rndAs_normal (by simp only [updH_apply, without_apply, b156, nm, seval] <;> rfl)]
    simp only [vz, mq, mqm, flr, tyf, mqt, b156, (ix24 o75), (ix24 o85), d157, d158, e160, e161, e162, e163, e164, e165, nm, seval]
    refine cwp_cutF (fun tm => tm 3 = .ptr 0 0 ∧ tm 6 = .ptr 1 0 ∧ tm 7 = .ptr 2 0 ∧ tm 8 = .ptr 3 0 ∧ tm 11 = .ptr 43 0 ∧ tm 12 = .ptr (nx123 + 34) 0 ∧ True) (by refine ⟨e160, e161, e162, e163, e164, ?_, trivial⟩ <;> first | (simp only [ua, encM_nil, b156, d157, d158, e160, e161, e162, e163, e164, e165, nm, seval] <;> rfl) | rfl) ?_
    rintro tm ⟨e166, e167, e168, e169, e170, e171, _⟩
    refine cwp_drawF mixed 0 [([false, true, true, false, false, false, false], 3)] [false, false, false, false, true, true, true] [true, false, false, false, true, true, true] (by kernel_rfl) ?_
    refine flGo_segL ?_
    simp only [vz, mq, mqm, flr, tyf, mqt, b156, (ix24 o75), (ix24 o85), d157, d158, e166, e167, e168, e169, e170, e171, nm, seval]
    refine flR_end ⟨?_, ?_⟩
    ·try simp only [traceR_cons, traceR_nil, hitK_quiet, hitK_nil, and_true, true_and]
     repeat' (first | exact trivial | refine And.intro ?_ ?_ | rw [hitK_quiet] | rw [hitK_cons] | exact Or.inl (by decide +kernel) | exact Or.inl (by dsimp only; decide +kernel) | (refine Or.inr ⟨?_, ?_⟩ <;> simp; done) | (refine Or.inr ⟨?_, ?_⟩ <;> simp <;> omega) | (refine Or.inr ⟨?_, ?_⟩ <;> simp [VEff.wr] <;> omega))
    refine ⟨?_, ?_⟩
    ·refine flB_go rfl ?_
     try simp only [vz, mq, mqm, flr, tyf, mqt, b156, (ix24 o75), (ix24 o85), d157, d158, e166, e167, e168, e169, e170, e171, nm, seval]
     refine kopen ?_
     rw [openK_eq]
     refine VOpen.run mixed Tryz.call57 Tryz.func57 rfl (by simp [Tryz.ntmps57]; kernel_rfl) ?_
     try simp only [vz, mq, mqm, flr, tyf, mqt, b156, (ix24 o75), (ix24 o85), d157, d158, nm, seval]
     refine kopen ?_
     rw [openK_eq]
     refine VOpen.run mixed Tryz.call64 Tryz.func64 rfl (by simp [Tryz.ntmps64]; kernel_rfl) ?_
     try simp only [vz, mq, mqm, flr, tyf, mqt, b156, (ix24 o75), (ix24 o85), d157, d158, nm, seval]
     refine kopen ?_
     rw [openK_eq]
     refine VOpen.run mixed Tryz.call98 Tryz.func98 rfl (by simp [Tryz.ntmps98]; kernel_rfl) ?_
     try simp only [vz, mq, mqm, flr, tyf, mqt, b156, (ix24 o75), (ix24 o85), d157, d158, nm, seval]
     refine opd_ret (x := (VV.fn (Fn.func 126) [] [.ptr (nx123 + 57) 0])) (by first | (simp only [Tryz.results98, resV, resL, resV1, tgt_ptr, tgt_tp, uw, cr, tyf, mqt, b156, (ix24 o75), (ix24 o85), d157, d158, nm, seval] <;> rfl) | rfl) ?_
     try simp only [vz, mq, mqm, flr, tyf, mqt, b156, (ix24 o75), (ix24 o85), d157, d158, nm, seval]
     refine kopen ?_
     rw [openK_eq]
     refine VOpen.run mixed Tryz.call100 Tryz.func100 rfl (by simp [Tryz.ntmps100]; kernel_rfl) ?_
     try simp only [vz, mq, mqm, flr, tyf, mqt, b156, (ix24 o75), (ix24 o85), d157, d158, nm, seval]
     refine opd_ret (x := (VV.fn (Fn.func 127) [] [.ptr (nx123 + 61) 0, .ptr (nx123 + 62) 0])) (by first | (simp only [Tryz.results100, resV, resL, resV1, tgt_ptr, tgt_tp, uw, cr, tyf, mqt, b156, (ix24 o75), (ix24 o85), d157, d158, nm, seval] <;> rfl) | rfl) ?_
     try simp only [vz, mq, mqm, flr, tyf, mqt, b156, (ix24 o75), (ix24 o85), d157, d158, nm, seval]
     refine opd_ret (x := (VV.fn (Fn.func 127) [] [.ptr (nx123 + 61) 0, .ptr (nx123 + 62) 0])) (by first | (simp only [Tryz.results64, resV, resL, resV1, tgt_ptr, tgt_tp, uw, cr, tyf, mqt, b156, (ix24 o75), (ix24 o85), d157, d158, nm, seval] <;> rfl) | rfl) ?_
     try simp only [vz, mq, mqm, flr, tyf, mqt, b156, (ix24 o75), (ix24 o85), d157, d158, nm, seval]
     refine range_open (f := 127) (first := []) (captured := [.ptr (nx123 + 61) 0, .ptr (nx123 + 62) 0]) (by first | (simp only [ev_tmp, ev_func, b156, (ix24 o75), (ix24 o85), d157, d158, upd_apply, nm, seval] <;> rfl) | rfl) ?_
     intro LO172 hLO172
     refine VOpen.run mixed Tryz.call127 Tryz.func127 rfl (by simp [Tryz.ntmps127]; kernel_rfl) ?_
     try simp only [vz, mq, mqm, flr, tyf, mqt, b156, (ix24 o75), (ix24 o85), d157, d158, nm, seval]
     refine range_open (f := 126) (first := []) (captured := [.ptr (nx123 + 57) 0]) (by first | (simp only [ev_tmp, ev_func, b156, (ix24 o75), (ix24 o85), d157, d158, upd_apply, nm, seval] <;> rfl) | rfl) ?_
     intro LO173 hLO173
     refine VOpen.run mixed Tryz.call126 Tryz.func126 rfl (by simp [Tryz.ntmps126]; kernel_rfl) ?_
     simp only [vz, mq, mqm, flr, tyf, mqt, b156, (ix24 o75), (ix24 o85), d157, d158, nm, seval]
     obtain ⟨K174, h, kR174, kG174, kB174, kN174⟩ := lbind_intro h kN123
     obtain ⟨f174, hf174, h⟩ := call7 h
     obtain ⟨I174, hI174⟩ : ∃ I : Nat → St → Prop, I = (fun m st => ∃ (p174 : Nat) (c174_8 : Int) (c174_o0 : Int) (c174_o1 : Int) (c174_o2 : Int) (c174_o3 : Int) (c174_o4 : Int), p174 = m ∧ loOk c174_8 = true ∧ Int.toNat ((IntKind.i64.wrap (x0_s.Length + 1)) - c174_8) = p174 ∧ st.df = [] ∧ nx123 + 76 ≤ st.nx ∧ st.H 0 = some (.cells (some 27) (cGSightStreet x0_s)) ∧ st.H 1 = some (.cells (some 34) ([.lit (.int .i64 c174_o0)] ++ [.lit (.int .i64 c174_o1)])) ∧ st.H 2 = some (.cells (some 3) ([.lit (.int .i64 c174_o2)])) ∧ st.H 3 = some (.cells (some 30) ([.lit (.int .i64 c174_o3)])) ∧ st.H 38 = some (.cells (some 97) ([.mt (mtK kv34 r76) (mtV ev46 r76)])) ∧ st.H 39 = some (.cells (some 97) ([.mt (mtK kv34 r86) (mtV ev46 r86)])) ∧ st.H 43 = some (.cells (some 100) ([VV.fn (Fn.func 75) [] [.ptr 38 0, .ptr 39 0]])) ∧ st.H 55 = some (.cells (some 27) (cGSightStreet x0_s)) ∧ st.H 59 = some (.cells (some 108) ([VV.fn (Fn.func 126) [] [.ptr 55 0]])) ∧ st.H 60 = some (.cells (some 100) ([VV.fn (Fn.func 75) [] [.ptr 38 0, .ptr 39 0]])) ∧ st.H 64 = some (.deferred (some [])) ∧ st.H 65 = some LB159 ∧ st.H 66 = some (.cells (some 100) ([.yl 65])) ∧ st.H 68 = some (.deferred (some [])) ∧ st.H 69 = some LB152 ∧ st.H (nx123 + 34) = some (.cells (some 34) ([.lit (.int .i64 c96_8)] ++ [.lit (.int .i64 (c123_13 + 1))])) ∧ st.H (nx123 + 43) = some (.cells (some 27) (cGSightStreet x0_s)) ∧ st.H (nx123 + 45) = some (.cells (some 3) ([.lit (.int .i64 c174_o4)])) ∧ st.H (nx123 + 57) = some (.cells (some 27) (cGSightStreet x0_s)) ∧ st.H (nx123 + 61) = some (.cells (some 108) ([VV.fn (Fn.func 126) [] [.ptr (nx123 + 57) 0]])) ∧ st.H (nx123 + 62) = some (.cells (some 100) ([VV.fn (Fn.func 75) [] [.ptr 38 0, .ptr 39 0]])) ∧ st.H (nx123 + 66) = some (.deferred (some [])) ∧ st.H (nx123 + 67) = some LO172 ∧ st.H (nx123 + 68) = some (.cells (some 100) ([.yl (nx123 + 67)])) ∧ st.H (nx123 + 70) = some (.deferred (some [])) ∧ st.H (nx123 + 71) = some LO173 ∧ st.tm 0 = .yl (nx123 + 71) ∧ st.tm 1 = .ptr (nx123 + 57) 0 ∧ st.tm 7 = .lit (.int .i64 (IntKind.i64.wrap (x0_s.Length + 1))) ∧ st.tm 8 = .lit (.int .i64 c174_8) ∧ K174 (f174 p174 c174_8 c174_o0 c174_o1 c174_o2 c174_o3 c174_o4)) := ⟨_, rfl⟩
     refine loopK mixed (by kernel_rfl) I174 (Int.toNat ((IntKind.i64.wrap (x0_s.Length + 1)) - 0)) (by rw [hI174]; refine ⟨Int.toNat ((IntKind.i64.wrap (x0_s.Length + 1)) - 0), 0, c123_o0, c123_o1, c123_o2, c123_o3, 0, rfl, (by rfl), rfl, rfl, (show nx123 + 76 ≤ nx123 + 76 by omega), ?_, ?_, ?_, ?_, ?_, ?_, ?_, ?_, ?_, ?_, ?_, ?_, ?_, ?_, ?_, ?_, ?_, ?_, ?_, ?_, ?_, ?_, ?_, ?_, ?_, ?_, ?_, ?_, ?_, ?_, h⟩ <;> first | (simp only [ua, encM_nil, b156, d157, d158, nm, seval] <;> rfl) | rfl) ?_
     rintro m ⟨tm, H, nx174, df⟩ hinv
     rw [hI174] at hinv
     obtain ⟨p174, c174_8, c174_o0, c174_o1, c174_o2, c174_o3, c174_o4, rfl, hi174, hp174, hdf, hn174, H175, H176, H177, H178, H179, H180, H181, H182, H183, H184, H185, H186, H187, H188, H189, H190, H191, H192, H193, H194, H195, H196, H197, H198, H199, H200, e201, e202, e203, e204, h⟩ := hinv
     simp only at hdf hn174 H175 H176 H177 H178 H179 H180 H181 H182 H183 H184 H185 H186 H187 H188 H189 H190 H191 H192 H193 H194 H195 H196 H197 H198 H199 H200 e201 e202 e203 e204
     have n205 := base_ne0 (m := 74) (b := nx174) (by omega)
     have n206 := base_ne (a := nx96) (m := 6) (b := nx174) (by omega)
     have n207 := base_ne (a := nx123) (m := 76) (b := nx174) (by omega)
     subst hdf hf174
     cases p174 with
     | zero =>
      have d208 : (decide (c174_8 < (IntKind.i64.wrap (x0_s.Length + 1)))) = false := cnt_not_lt hp174
      simp only [g_sight_Both_l2, hs, reduceCtorEq] at h
      replace h := kG174 _ h
      try dsimp only at h
      try simp only [hs] at h
      try simp only [vz, mq, mqm, flr, tyf, mqt, b156, (ix24 o75), (ix24 o85), d157, d158, n205, n206, n207, e201, e202, e203, e204, H175, H176, H177, H178, H179, H180, H181, H182, H183, H184, H185, H186, H187, H188, H189, H190, H191, H192, H193, H194, H195, H196, H197, H198, H199, H200, d208, nm, seval]
      refine opd_normal (x := .tup []) (by simp [Tryz.results126, resV, resL]) ?_
      refine rangeEnd_go hLO173 (by simp only [updH_apply, without_apply, b156, n205, n206, n207, H175, H176, H177, H178, H179, H180, H181, H182, H183, H184, H185, H186, H187, H188, H189, H190, H191, H192, H193, H194, H195, H196, H197, H198, H199, H200, nm, seval] <;> rfl) ?_
      intro LX209
      try simp only [vz, mq, mqm, flr, tyf, mqt, b156, (ix24 o75), (ix24 o85), d157, d158, n205, n206, n207, H175, H176, H177, H178, H179, H180, H181, H182, H183, H184, H185, H186, H187, H188, H189, H190, H191, H192, H193, H194, H195, H196, H197, H198, H199, H200, d208, nm, seval]
      refine opd_collN (by simp only [updH_apply, without_apply, b156, n205, n206, n207, H175, H176, H177, H178, H179, H180, H181, H182, H183, H184, H185, H186, H187, H188, H189, H190, H191, H192, H193, H194, H195, H196, H197, H198, H199, H200, nm, seval] <;> rfl) ?_
      try simp only [vz, mq, mqm, flr, tyf, mqt, b156, (ix24 o75), (ix24 o85), d157, d158, n205, n206, n207, H175, H176, H177, H178, H179, H180, H181, H182, H183, H184, H185, H186, H187, H188, H189, H190, H191, H192, H193, H194, H195, H196, H197, H198, H199, H200, d208, nm, seval]
      refine opd_normal (x := .tup []) (by simp [Tryz.results127, resV, resL]) ?_
      refine rangeEnd_go hLO172 (by simp only [updH_apply, without_apply, b156, n205, n206, n207, H175, H176, H177, H178, H179, H180, H181, H182, H183, H184, H185, H186, H187, H188, H189, H190, H191, H192, H193, H194, H195, H196, H197, H198, H199, H200, nm, seval] <;> rfl) ?_
      intro LX210
      try simp only [vz, mq, mqm, flr, tyf, mqt, b156, (ix24 o75), (ix24 o85), d157, d158, n205, n206, n207, H175, H176, H177, H178, H179, H180, H181, H182, H183, H184, H185, H186, H187, H188, H189, H190, H191, H192, H193, H194, H195, H196, H197, H198, H199, H200, d208, nm, seval]
      refine opd_coll (by simp only [updH_apply, without_apply, b156, n205, n206, n207, H175, H176, H177, H178, H179, H180, H181, H182, H183, H184, H185, H186, H187, H188, H189, H190, H191, H192, H193, H194, H195, H196, H197, H198, H199, H200, nm, seval] <;> rfl) ?_
      try simp only [vz, mq, mqm, flr, tyf, mqt, b156, (ix24 o75), (ix24 o85), d157, d158, n205, n206, n207, H175, H176, H177, H178, H179, H180, H181, H182, H183, H184, H185, H186, H187, H188, H189, H190, H191, H192, H193, H194, H195, H196, H197, H198, H199, H200, d208, nm, seval]
      refine opd_ret (x := (.lit (.int .i64 c174_o4))) (by first | (simp only [Tryz.results57, resV, resL, resV1, tgt_ptr, tgt_tp, uw, cr, tyf, mqt, b156, (ix24 o75), (ix24 o85), d157, d158, n205, n206, n207, H175, H176, H177, H178, H179, H180, H181, H182, H183, H184, H185, H186, H187, H188, H189, H190, H191, H192, H193, H194, H195, H196, H197, H198, H199, H200, d208, nm, seval] <;> rfl) | rfl) ?_
      try simp only [vz, mq, mqm, flr, tyf, mqt, b156, (ix24 o75), (ix24 o85), d157, d158, n205, n206, n207, H175, H176, H177, H178, H179, H180, H181, H182, H183, H184, H185, H186, H187, H188, H189, H190, H191, H192, H193, H194, H195, H196, H197, H198, H199, H200, d208, e166, e167, e168, e169, e170, e171, nm, seval]
      refine flGo_lastL ?_
      simp only [vz, mq, mqm, flr, tyf, mqt, b156, (ix24 o75), (ix24 o85), d157, d158, n205, n206, n207, H175, H176, H177, H178, H179, H180, H181, H182, H183, H184, H185, H186, H187, H188, H189, H190, H191, H192, H193, H194, H195, H196, H197, H198, H199, H200, d208, e166, e167, e168, e169, e170, e171, nm, seval]
      refine flR_end ⟨?_, ?_⟩
      ·try simp only [traceR_cons, traceR_nil, hitK_quiet, hitK_nil, and_true, true_and]
       repeat' (first | exact trivial | refine And.intro ?_ ?_ | rw [hitK_quiet] | rw [hitK_cons] | exact Or.inl (by decide +kernel) | exact Or.inl (by dsimp only; decide +kernel) | (refine Or.inr ⟨?_, ?_⟩ <;> simp; done) | (refine Or.inr ⟨?_, ?_⟩ <;> simp <;> omega) | (refine Or.inr ⟨?_, ?_⟩ <;> simp [VEff.wr] <;> omega))
      try simp only [vz, mq, mqm, flr, tyf, mqt, b156, (ix24 o75), (ix24 o85), d157, d158, n205, n206, n207, H175, H176, H177, H178, H179, H180, H181, H182, H183, H184, H185, H186, H187, H188, H189, H190, H191, H192, H193, H194, H195, H196, H197, H198, H199, H200, d208, e166, e167, e168, e169, e170, e171, nm, seval]
      rw [rnd_ret (by simp only [updH_apply, without_apply, b156, n205, n206, n207, H175, H176, H177, H178, H179, H180, H181, H182, H183, H184, H185, H186, H187, H188, H189, H190, H191, H192, H193, H194, H195, H196, H197, H198, H199, H200, nm, seval] <;> rfl)]
      try simp only [vz, mq, mqm, flr, tyf, mqt, b156, (ix24 o75), (ix24 o85), d157, d158, n205, n206, n207, H175, H176, H177, H178, H179, H180, H181, H182, H183, H184, H185, H186, H187, H188, H189, H190, H191, H192, H193, H194, H195, H196, H197, H198, H199, H200, d208, e153, e154, e155, nm, seval]
      rw [rnd_ret (by simp only [updH_apply, without_apply, b156, n205, n206, n207, H175, H176, H177, H178, H179, H180, H181, H182, H183, H184, H185, H186, H187, H188, H189, H190, H191, H192, H193, H194, H195, H196, H197, H198, H199, H200, nm, seval] <;> rfl)]
      try simp only [vz, mq, mqm, flr, tyf, mqt, b156, (ix24 o75), (ix24 o85), d157, d158, n205, n206, n207, H175, H176, H177, H178, H179, H180, H181, H182, H183, H184, H185, H186, H187, H188, H189, H190, H191, H192, H193, H194, H195, H196, H197, H198, H199, H200, d208, e140, e141, e142, e143, e144, e145, e146, nm, seval]
      refine opd_ret (x := .tup []) (by simp [Tryz.results126, resV, resL]) ?_
      replace h := kB123 _ _ h
      try dsimp only at h
      replace h := kB96 _ _ h
      try dsimp only at h
      refine rangeEnd_ret hLD152 (by simp only [updH_apply, without_apply, b156, n205, n206, n207, H175, H176, H177, H178, H179, H180, H181, H182, H183, H184, H185, H186, H187, H188, H189, H190, H191, H192, H193, H194, H195, H196, H197, H198, H199, H200, nm, seval] <;> rfl) ?_
      intro LX211
      try simp only [vz, mq, mqm, flr, tyf, mqt, b156, (ix24 o75), (ix24 o85), d157, d158, n205, n206, n207, H175, H176, H177, H178, H179, H180, H181, H182, H183, H184, H185, H186, H187, H188, H189, H190, H191, H192, H193, H194, H195, H196, H197, H198, H199, H200, d208, nm, seval]
      refine opd_coll (by simp only [updH_apply, without_apply, b156, n205, n206, n207, H175, H176, H177, H178, H179, H180, H181, H182, H183, H184, H185, H186, H187, H188, H189, H190, H191, H192, H193, H194, H195, H196, H197, H198, H199, H200, nm, seval] <;> rfl) ?_
      try simp only [vz, mq, mqm, flr, tyf, mqt, b156, (ix24 o75), (ix24 o85), d157, d158, n205, n206, n207, H175, H176, H177, H178, H179, H180, H181, H182, H183, H184, H185, H186, H187, H188, H189, H190, H191, H192, H193, H194, H195, H196, H197, H198, H199, H200, d208, nm, seval]
      refine opd_ret (x := .tup []) (by simp [Tryz.results127, resV, resL]) ?_
      refine rangeEnd_ret hLD159 (by simp only [updH_apply, without_apply, b156, n205, n206, n207, H175, H176, H177, H178, H179, H180, H181, H182, H183, H184, H185, H186, H187, H188, H189, H190, H191, H192, H193, H194, H195, H196, H197, H198, H199, H200, nm, seval] <;> rfl) ?_
      intro LX212
      try simp only [vz, mq, mqm, flr, tyf, mqt, b156, (ix24 o75), (ix24 o85), d157, d158, n205, n206, n207, H175, H176, H177, H178, H179, H180, H181, H182, H183, H184, H185, H186, H187, H188, H189, H190, H191, H192, H193, H194, H195, H196, H197, H198, H199, H200, d208, e88, e89, e90, e91, e92, e93, nm, seval]
      refine opd_coll (by simp only [updH_apply, without_apply, b156, n205, n206, n207, H175, H176, H177, H178, H179, H180, H181, H182, H183, H184, H185, H186, H187, H188, H189, H190, H191, H192, H193, H194, H195, H196, H197, H198, H199, H200, nm, seval] <;> rfl) ?_
      try simp only [vz, mq, mqm, flr, tyf, mqt, b156, (ix24 o75), (ix24 o85), d157, d158, n205, n206, n207, H175, H176, H177, H178, H179, H180, H181, H182, H183, H184, H185, H186, H187, H188, H189, H190, H191, H192, H193, H194, H195, H196, H197, H198, H199, H200, d208, e88, e89, e90, e91, e92, e93, nm, seval]
      refine opd_ret (x := (.tup [.agg ([.lit (.int .i64 c96_8)] ++ [.lit (.int .i64 (c123_13 + 1))]), .lit (.int .i64 c174_o4), .lit (.int .i64 0)])) (by first | (simp only [Tryz.results30, resV, resL, resV1, tgt_ptr, tgt_tp, uw, cr, tyf, mqt, b156, (ix24 o75), (ix24 o85), d157, d158, n205, n206, n207, H175, H176, H177, H178, H179, H180, H181, H182, H183, H184, H185, H186, H187, H188, H189, H190, H191, H192, H193, H194, H195, H196, H197, H198, H199, H200, d208, e88, e89, e90, e91, e92, e93, nm, seval] <;> rfl) | rfl) ?_
      obtain rfl := kF _ h
      refine rr_tree ?_ ?_
      ·simp only [tre, tytre, Bool.and_self]
      ·first | (simp only [outV, uw, showV_ref, cr, tyf, mqt, nrm, tynrm, b156, (ix24 o75), (ix24 o85), d157, d158, n205, n206, n207, H175, H176, H177, H178, H179, H180, H181, H182, H183, H184, H185, H186, H187, H188, H189, H190, H191, H192, H193, H194, H195, H196, H197, H198, H199, H200, d208, e88, e89, e90, e91, e92, e93, nm, seval] <;> rfl) | rfl
     | succ p174 =>
      have d213 : (decide (c174_8 < (IntKind.i64.wrap (x0_s.Length + 1)))) = true := cnt_lt hp174
      have w214 := cnt_wrap hi174 hp174 g97
      simp only [g_sight_Both_l2, hs, reduceCtorEq] at h
      simp only [vz, mq, mqm, flr, tyf, mqt, b156, (ix24 o75), (ix24 o85), d157, d158, n205, n206, n207, e201, e202, e203, e204, H175, H176, H177, H178, H179, H180, H181, H182, H183, H184, H185, H186, H187, H188, H189, H190, H191, H192, H193, H194, H195, H196, H197, H198, H199, H200, d213, w214, nm, seval]
      obtain ⟨K215, h, kR215, kG215, kB215, kN215⟩ := lbind_intro h kN174
      obtain ⟨f215, hf215, h⟩ := call7 h
      obtain ⟨I215, hI215⟩ : ∃ I : Nat → St → Prop, I = (fun m st => ∃ (p215 : Nat) (c215_13 : Int) (c215_o0 : Int) (c215_o1 : Int) (c215_o2 : Int) (c215_o3 : Int) (c215_o4 : Int), p215 = m ∧ loOk c215_13 = true ∧ Int.toNat (x0_s.Width - c215_13) = p215 ∧ st.df = [] ∧ nx174 + 6 ≤ st.nx ∧ st.H 0 = some (.cells (some 27) (cGSightStreet x0_s)) ∧ st.H 1 = some (.cells (some 34) ([.lit (.int .i64 c215_o0)] ++ [.lit (.int .i64 c215_o1)])) ∧ st.H 2 = some (.cells (some 3) ([.lit (.int .i64 c215_o2)])) ∧ st.H 3 = some (.cells (some 30) ([.lit (.int .i64 c215_o3)])) ∧ st.H 38 = some (.cells (some 97) ([.mt (mtK kv34 r76) (mtV ev46 r76)])) ∧ st.H 39 = some (.cells (some 97) ([.mt (mtK kv34 r86) (mtV ev46 r86)])) ∧ st.H 43 = some (.cells (some 100) ([VV.fn (Fn.func 75) [] [.ptr 38 0, .ptr 39 0]])) ∧ st.H 55 = some (.cells (some 27) (cGSightStreet x0_s)) ∧ st.H 59 = some (.cells (some 108) ([VV.fn (Fn.func 126) [] [.ptr 55 0]])) ∧ st.H 60 = some (.cells (some 100) ([VV.fn (Fn.func 75) [] [.ptr 38 0, .ptr 39 0]])) ∧ st.H 64 = some (.deferred (some [])) ∧ st.H 65 = some LB159 ∧ st.H 66 = some (.cells (some 100) ([.yl 65])) ∧ st.H 68 = some (.deferred (some [])) ∧ st.H 69 = some LB152 ∧ st.H (nx123 + 34) = some (.cells (some 34) ([.lit (.int .i64 c96_8)] ++ [.lit (.int .i64 (c123_13 + 1))])) ∧ st.H (nx123 + 43) = some (.cells (some 27) (cGSightStreet x0_s)) ∧ st.H (nx123 + 45) = some (.cells (some 3) ([.lit (.int .i64 c215_o4)])) ∧ st.H (nx123 + 57) = some (.cells (some 27) (cGSightStreet x0_s)) ∧ st.H (nx123 + 61) = some (.cells (some 108) ([VV.fn (Fn.func 126) [] [.ptr (nx123 + 57) 0]])) ∧ st.H (nx123 + 62) = some (.cells (some 100) ([VV.fn (Fn.func 75) [] [.ptr 38 0, .ptr 39 0]])) ∧ st.H (nx123 + 66) = some (.deferred (some [])) ∧ st.H (nx123 + 67) = some LO172 ∧ st.H (nx123 + 68) = some (.cells (some 100) ([.yl (nx123 + 67)])) ∧ st.H (nx123 + 70) = some (.deferred (some [])) ∧ st.H (nx123 + 71) = some LO173 ∧ st.tm 0 = .yl (nx123 + 71) ∧ st.tm 1 = .ptr (nx123 + 57) 0 ∧ st.tm 3 = .lit (.int .i64 c174_8) ∧ st.tm 7 = .lit (.int .i64 (IntKind.i64.wrap (x0_s.Length + 1))) ∧ st.tm 8 = .lit (.int .i64 c174_8) ∧ st.tm 12 = .lit (.int .i64 x0_s.Width) ∧ st.tm 13 = .lit (.int .i64 c215_13) ∧ K215 (f215 p215 c215_13 c215_o0 c215_o1 c215_o2 c215_o3 c215_o4)) := ⟨_, rfl⟩
      refine loopK mixed (by kernel_rfl) I215 (Int.toNat (x0_s.Width - 0)) (by rw [hI215]; refine ⟨Int.toNat (x0_s.Width - 0), 0, c174_o0, c174_o1, c174_o2, c174_o3, c174_o4, rfl, (by rfl), rfl, rfl, (show nx174 + 6 ≤ nx174 + 6 by omega), ?_, ?_, ?_, ?_, ?_, ?_, ?_, ?_, ?_, ?_, ?_, ?_, ?_, ?_, ?_, ?_, ?_, ?_, ?_, ?_, ?_, ?_, ?_, ?_, ?_, ?_, e201, e202, ?_, e203, e204, ?_, ?_, h⟩ <;> first | (simp only [ua, encM_nil, b156, d157, d158, n205, n206, n207, e201, e202, e203, e204, H175, H176, H177, H178, H179, H180, H181, H182, H183, H184, H185, H186, H187, H188, H189, H190, H191, H192, H193, H194, H195, H196, H197, H198, H199, H200, d213, w214, nm, seval] <;> rfl) | rfl) ?_
      rintro m ⟨tm, H, nx215, df⟩ hinv
      rw [hI215] at hinv
      obtain ⟨p215, c215_13, c215_o0, c215_o1, c215_o2, c215_o3, c215_o4, rfl, hi215, hp215, hdf, hn215, H216, H217, H218, H219, H220, H221, H222, H223, H224, H225, H226, H227, H228, H229, H230, H231, H232, H233, H234, H235, H236, H237, H238, H239, H240, H241, e242, e243, e244, e245, e246, e247, e248, h⟩ := hinv
      simp only at hdf hn215 H216 H217 H218 H219 H220 H221 H222 H223 H224 H225 H226 H227 H228 H229 H230 H231 H232 H233 H234 H235 H236 H237 H238 H239 H240 H241 e242 e243 e244 e245 e246 e247 e248
      have n249 := base_ne0 (m := 74) (b := nx215) (by omega)
      have n250 := base_ne (a := nx96) (m := 6) (b := nx215) (by omega)
      have n251 := base_ne (a := nx123) (m := 76) (b := nx215) (by omega)
      have n252 := base_ne (a := nx174) (m := 6) (b := nx215) (by omega)
      subst hdf hf215
      cases p215 with
      | zero =>
       have d253 : (decide (c215_13 < x0_s.Width)) = false := cnt_not_lt hp215
       simp only [g_sight_Both_l3, hs, reduceCtorEq] at h
       replace h := kG215 _ h
       try dsimp only at h
       try simp only [hs] at h
       simp only [vz, mq, mqm, flr, tyf, mqt, b156, (ix24 o75), (ix24 o85), d157, d158, n205, n206, n207, d213, w214, n249, n250, n251, n252, e242, e243, e244, e245, e246, e247, e248, H216, H217, H218, H219, H220, H221, H222, H223, H224, H225, H226, H227, H228, H229, H230, H231, H232, H233, H234, H235, H236, H237, H238, H239, H240, H241, d253, nm, seval]
       exact ⟨p174, Nat.lt_succ_self _, by rw [hI174]; refine ⟨p174, c174_8 + 1, c215_o0, c215_o1, c215_o2, c215_o3, c215_o4, rfl, cnt_lo hi174, cnt_next hp174, rfl, (show nx123 + 76 ≤ nx215 + 3 by omega), ?_, ?_, ?_, ?_, ?_, ?_, ?_, ?_, ?_, ?_, ?_, ?_, ?_, ?_, ?_, ?_, ?_, ?_, ?_, ?_, ?_, ?_, ?_, ?_, ?_, ?_, e242, e243, e245, ?_, h⟩ <;> first | (simp only [ua, encM_nil, b156, d157, d158, n205, n206, n207, d213, w214, n249, n250, n251, n252, e242, e243, e244, e245, e246, e247, e248, H216, H217, H218, H219, H220, H221, H222, H223, H224, H225, H226, H227, H228, H229, H230, H231, H232, H233, H234, H235, H236, H237, H238, H239, H240, H241, d253, nm, seval] <;> rfl) | rfl⟩
      | succ p215 =>
       have d254 : (decide (c215_13 < x0_s.Width)) = true := cnt_lt hp215
       have w255 := cnt_wrap hi215 hp215 g124
       simp only [g_sight_Both_l3, hs, reduceCtorEq] at h
       try simp only [vz, mq, mqm, flr, tyf, mqt, b156, (ix24 o75), (ix24 o85), d157, d158, n205, n206, n207, d213, w214, n249, n250, n251, n252, e242, e243, e244, e245, e246, e247, e248, H216, H217, H218, H219, H220, H221, H222, H223, H224, H225, H226, H227, H228, H229, H230, H231, H232, H233, H234, H235, H236, H237, H238, H239, H240, H241, d254, w255, rg, nm, seval]
       refine yield_open mixed (psl := [6]) hLO173 (by simp only [updH_apply, without_apply, b156, n205, n206, n207, n249, n250, n251, n252, H216, H217, H218, H219, H220, H221, H222, H223, H224, H225, H226, H227, H228, H229, H230, H231, H232, H233, H234, H235, H236, H237, H238, H239, H240, H241, nm, seval] <;> rfl) tmL_length rfl (by kernel_rfl) (by kernel_rfl) ?_
       intro LB256 LD256 hLB256 hLD256
       refine cwp_tmcut (fun tm => tm 2 = .ptr (nx123 + 62) 0 ∧ tm 3 = .ptr (nx123 + 68) 0 ∧ tm 6 = .agg ([.lit (.int .i64 c174_8)] ++ [.lit (.int .i64 (c215_13 + 1))]) ∧ True) (by refine ⟨?_, ?_, ?_, trivial⟩ <;> (simp only [round_tm, round_tm0, Tryz.ntmps127, e242, e243, e244, e245, e246, e247, e248, nm, seval] <;> first | rfl | trivial)) ?_
       rintro tm ⟨e257, e258, e259, _⟩
       have b260 := And.intro b156 (And.intro d157 (And.intro d158 (And.intro n205 (And.intro n206 (And.intro n207 (And.intro d213 (And.intro w214 (And.intro n249 (And.intro n250 (And.intro n251 (And.intro n252 (And.intro H216 (And.intro H217 (And.intro H218 (And.intro H219 (And.intro H220 (And.intro H221 (And.intro H222 (And.intro H223 (And.intro H224 (And.intro H225 (And.intro H226 (And.intro H227 (And.intro H228 (And.intro H229 (And.intro H230 (And.intro H231 (And.intro H232 (And.intro H233 (And.intro H234 (And.intro H235 (And.intro H236 (And.intro H237 (And.intro H238 (And.intro H239 (And.intro H240 (And.intro H241 (And.intro d254 w255))))))))))))))))))))))))))))))))))))))
       try simp only [vz, mq, mqm, flr, tyf, mqt, b260, (ix24 o75), (ix24 o85), e257, e258, e259, nm, seval]
       rw [rndAs_normal (by simp only [updH_apply, without_apply, b260, nm, seval] <;> rfl)]
       try simp only [vz, mq, mqm, flr, tyf, mqt, b260, (ix24 o75), (ix24 o85), e257, e258, e259, nm, seval]
       refine kopen ?_
       rw [openK_eq]
       refine VOpen.run mixed Tryz.call75 Tryz.func75 rfl (by simp [Tryz.ntmps75]; kernel_rfl) ?_
       cases d261 : ((mapGet q34 0 r76 (GSightPlace.mk c174_8 (c215_13 + 1))) == 3)
       ·simp only [d261, hs] at h
        try simp only [vz, mq, mqm, flr, tyf, mqt, b260, (ix24 o75), (ix24 o85), d261, nm, seval]
        refine opd_ret (x := (.lit (.bool false))) (by first | (simp only [Tryz.results75, resV, resL, resV1, tgt_ptr, tgt_tp, uw, cr, tyf, mqt, b260, (ix24 o75), (ix24 o85), d261, nm, seval] <;> rfl) | rfl) ?_
        try simp only [vz, mq, mqm, flr, tyf, mqt, b260, (ix24 o75), (ix24 o85), d261, e257, e258, e259, nm, seval]
        rw [rnd_normal (by simp only [updH_apply, without_apply, b260, nm, seval] <;> rfl)]
        simp only [vz, mq, mqm, flr, tyf, mqt, b260, (ix24 o75), (ix24 o85), d261, e242, e243, e244, e245, e246, e247, e248, nm, seval]
        exact ⟨p215, Nat.lt_succ_self _, by rw [hI215]; refine ⟨p215, c215_13 + 1, c215_o0, c215_o1, c215_o2, c215_o3, c215_o4, rfl, cnt_lo hi215, cnt_next hp215, rfl, (show nx174 + 6 ≤ nx215 + 36 by omega), ?_, ?_, ?_, ?_, ?_, ?_, ?_, ?_, ?_, ?_, ?_, ?_, ?_, ?_, ?_, ?_, ?_, ?_, ?_, ?_, ?_, ?_, ?_, ?_, ?_, ?_, e242, e243, e244, e245, e246, e247, ?_, h⟩ <;> first | (simp only [ua, encM_nil, b260, d261, e242, e243, e244, e245, e246, e247, e248, nm, seval] <;> rfl) | rfl⟩
       simp only [d261, hs] at h
       try simp only [vz, mq, mqm, flr, tyf, mqt, b260, (ix24 o75), (ix24 o85), d261, nm, seval]
       refine opd_ret (x := (.lit (.bool ((mapGet q34 0 r86 (GSightPlace.mk c174_8 (c215_13 + 1))) == 3)))) (by first | (simp only [Tryz.results75, resV, resL, resV1, tgt_ptr, tgt_tp, uw, cr, tyf, mqt, b260, (ix24 o75), (ix24 o85), d261, nm, seval] <;> rfl) | rfl) ?_
       cases d262 : ((mapGet q34 0 r86 (GSightPlace.mk c174_8 (c215_13 + 1))) == 3)
       ·simp only [d262, hs] at h
        try simp only [vz, mq, mqm, flr, tyf, mqt, b260, (ix24 o75), (ix24 o85), d261, e257, e258, e259, d262, nm, seval]
        rw [rnd_normal (by simp only [updH_apply, without_apply, b260, nm, seval] <;> rfl)]
        simp only [vz, mq, mqm, flr, tyf, mqt, b260, (ix24 o75), (ix24 o85), d261, d262, e242, e243, e244, e245, e246, e247, e248, nm, seval]
        exact ⟨p215, Nat.lt_succ_self _, by rw [hI215]; refine ⟨p215, c215_13 + 1, c215_o0, c215_o1, c215_o2, c215_o3, c215_o4, rfl, cnt_lo hi215, cnt_next hp215, rfl, (show nx174 + 6 ≤ nx215 + 36 by omega), ?_, ?_, ?_, ?_, ?_, ?_, ?_, ?_, ?_, ?_, ?_, ?_, ?_, ?_, ?_, ?_, ?_, ?_, ?_, ?_, ?_, ?_, ?_, ?_, ?_, ?_, e242, e243, e244, e245, e246, e247, ?_, h⟩ <;> first | (simp only [ua, encM_nil, b260, d261, d262, e242, e243, e244, e245, e246, e247, e248, nm, seval] <;> rfl) | rfl⟩
       simp only [d262, hs] at h
       try simp only [vz, mq, mqm, flr, tyf, mqt, b260, (ix24 o75), (ix24 o85), d261, e257, e258, e259, d262, rg, nm, seval]
       refine yield_open mixed (psl := [9]) hLO172 (by simp only [updH_apply, without_apply, b260, nm, seval] <;> rfl) tmL_length rfl (by kernel_rfl) (by kernel_rfl) ?_
       intro LB263 LD263 hLB263 hLD263
       refine cwp_tmcut (fun tm => tm 5 = .ptr (nx123 + 45) 0 ∧ True) (by refine ⟨?_, trivial⟩ <;> (simp only [round_tm, round_tm0, Tryz.ntmps57, e257, e258, e259, nm, seval] <;> first | rfl | trivial)) ?_
       rintro tm ⟨e264, _⟩
       try simp only [vz, mq, mqm, flr, tyf, mqt, b260, (ix24 o75), (ix24 o85), d261, d262, e264, nm, seval]
       rw [rndAs_normal (by simp only [updH_apply, without_apply, b260, nm, seval] <;> rfl)]
       try simp only [vz, mq, mqm, flr, tyf, mqt, b260, (ix24 o75), (ix24 o85), d261, d262, e264, nm, seval]
       rw [rnd_normal (by simp only [updH_apply, without_apply, b260, nm, seval] <;> rfl)]
       try simp only [vz, mq, mqm, flr, tyf, mqt, b260, (ix24 o75), (ix24 o85), d261, d262, e257, e258, e259, nm, seval]
       rw [rnd_normal (by simp only [updH_apply, without_apply, b260, nm, seval] <;> rfl)]
       simp only [vz, mq, mqm, flr, tyf, mqt, b260, (ix24 o75), (ix24 o85), d261, d262, e242, e243, e244, e245, e246, e247, e248, nm, seval]
       exact ⟨p215, Nat.lt_succ_self _, by rw [hI215]; refine ⟨p215, c215_13 + 1, c215_o0, c215_o1, c215_o2, c215_o3, IntKind.i64.wrap (c215_o4 + 1), rfl, cnt_lo hi215, cnt_next hp215, rfl, (show nx174 + 6 ≤ nx215 + 39 by omega), ?_, ?_, ?_, ?_, ?_, ?_, ?_, ?_, ?_, ?_, ?_, ?_, ?_, ?_, ?_, ?_, ?_, ?_, ?_, ?_, ?_, ?_, ?_, ?_, ?_, ?_, e242, e243, e244, e245, e246, e247, ?_, h⟩ <;> first | (simp only [ua, encM_nil, b260, d261, d262, e242, e243, e244, e245, e246, e247, e248, nm, seval] <;> rfl) | rfl⟩
    refine flD_go rfl ?_
    try simp only [vz, mq, mqm, flr, tyf, mqt, b156, (ix24 o75), (ix24 o85), d157, d158, e166, e167, e168, e169, e170, e171, nm, seval]
    refine ⟨?_, ?_⟩
    ·try simp only [traceR_cons, traceR_nil, hitK_quiet, hitK_nil, and_true, true_and]
     repeat' (first | exact trivial | refine And.intro ?_ ?_ | rw [hitK_quiet] | rw [hitK_cons] | exact Or.inl (by decide +kernel) | exact Or.inl (by dsimp only; decide +kernel) | (refine Or.inr ⟨?_, ?_⟩ <;> simp; done) | (refine Or.inr ⟨?_, ?_⟩ <;> simp <;> omega) | (refine Or.inr ⟨?_, ?_⟩ <;> simp [VEff.wr] <;> omega))
    refine flB_go rfl ?_
    try simp only [vz, mq, mqm, flr, tyf, mqt, b156, (ix24 o75), (ix24 o85), d157, d158, e166, e167, e168, e169, e170, e171, nm, seval]
    refine kopen ?_
    rw [openK_eq]
    refine VOpen.run mixed Tryz.call57 Tryz.func57 rfl (by simp [Tryz.ntmps57]; kernel_rfl) ?_
    try simp only [vz, mq, mqm, flr, tyf, mqt, b156, (ix24 o75), (ix24 o85), d157, d158, nm, seval]
    refine kopen ?_
    rw [openK_eq]
    refine VOpen.run mixed Tryz.call64 Tryz.func64 rfl (by simp [Tryz.ntmps64]; kernel_rfl) ?_
    try simp only [vz, mq, mqm, flr, tyf, mqt, b156, (ix24 o75), (ix24 o85), d157, d158, nm, seval]
    refine kopen ?_
    rw [openK_eq]
    refine VOpen.run mixed Tryz.call98 Tryz.func98 rfl (by simp [Tryz.ntmps98]; kernel_rfl) ?_
    try simp only [vz, mq, mqm, flr, tyf, mqt, b156, (ix24 o75), (ix24 o85), d157, d158, nm, seval]
    refine opd_ret (x := (VV.fn (Fn.func 126) [] [.ptr (nx123 + 57) 0])) (by first | (simp only [Tryz.results98, resV, resL, resV1, tgt_ptr, tgt_tp, uw, cr, tyf, mqt, b156, (ix24 o75), (ix24 o85), d157, d158, nm, seval] <;> rfl) | rfl) ?_
    try simp only [vz, mq, mqm, flr, tyf, mqt, b156, (ix24 o75), (ix24 o85), d157, d158, nm, seval]
    refine kopen ?_
    rw [openK_eq]
    refine VOpen.run mixed Tryz.call100 Tryz.func100 rfl (by simp [Tryz.ntmps100]; kernel_rfl) ?_
    try simp only [vz, mq, mqm, flr, tyf, mqt, b156, (ix24 o75), (ix24 o85), d157, d158, nm, seval]
    refine opd_ret (x := (VV.fn (Fn.func 127) [] [.ptr (nx123 + 61) 0, .ptr (nx123 + 62) 0])) (by first | (simp only [Tryz.results100, resV, resL, resV1, tgt_ptr, tgt_tp, uw, cr, tyf, mqt, b156, (ix24 o75), (ix24 o85), d157, d158, nm, seval] <;> rfl) | rfl) ?_
    try simp only [vz, mq, mqm, flr, tyf, mqt, b156, (ix24 o75), (ix24 o85), d157, d158, nm, seval]
    refine opd_ret (x := (VV.fn (Fn.func 127) [] [.ptr (nx123 + 61) 0, .ptr (nx123 + 62) 0])) (by first | (simp only [Tryz.results64, resV, resL, resV1, tgt_ptr, tgt_tp, uw, cr, tyf, mqt, b156, (ix24 o75), (ix24 o85), d157, d158, nm, seval] <;> rfl) | rfl) ?_
    try simp only [vz, mq, mqm, flr, tyf, mqt, b156, (ix24 o75), (ix24 o85), d157, d158, nm, seval]
    refine range_open (f := 127) (first := []) (captured := [.ptr (nx123 + 61) 0, .ptr (nx123 + 62) 0]) (by first | (simp only [ev_tmp, ev_func, b156, (ix24 o75), (ix24 o85), d157, d158, upd_apply, nm, seval] <;> rfl) | rfl) ?_
    intro LO265 hLO265
    refine VOpen.run mixed Tryz.call127 Tryz.func127 rfl (by simp [Tryz.ntmps127]; kernel_rfl) ?_
    try simp only [vz, mq, mqm, flr, tyf, mqt, b156, (ix24 o75), (ix24 o85), d157, d158, nm, seval]
    refine range_open (f := 126) (first := []) (captured := [.ptr (nx123 + 57) 0]) (by first | (simp only [ev_tmp, ev_func, b156, (ix24 o75), (ix24 o85), d157, d158, upd_apply, nm, seval] <;> rfl) | rfl) ?_
    intro LO266 hLO266
    refine VOpen.run mixed Tryz.call126 Tryz.func126 rfl (by simp [Tryz.ntmps126]; kernel_rfl) ?_
    simp only [vz, mq, mqm, flr, tyf, mqt, b156, (ix24 o75), (ix24 o85), d157, d158, nm, seval]
    obtain ⟨K267, h, kR267, kG267, kB267, kN267⟩ := lbind_intro h kN123
    obtain ⟨f267, hf267, h⟩ := call7 h
    obtain ⟨I267, hI267⟩ : ∃ I : Nat → St → Prop, I = (fun m st => ∃ (p267 : Nat) (c267_8 : Int) (c267_o0 : Int) (c267_o1 : Int) (c267_o2 : Int) (c267_o3 : Int) (c267_o4 : Int), p267 = m ∧ loOk c267_8 = true ∧ Int.toNat ((IntKind.i64.wrap (x0_s.Length + 1)) - c267_8) = p267 ∧ st.df = [] ∧ nx123 + 76 ≤ st.nx ∧ st.H 0 = some (.cells (some 27) (cGSightStreet x0_s)) ∧ st.H 1 = some (.cells (some 34) ([.lit (.int .i64 c267_o0)] ++ [.lit (.int .i64 c267_o1)])) ∧ st.H 2 = some (.cells (some 3) ([.lit (.int .i64 c267_o2)])) ∧ st.H 3 = some (.cells (some 30) ([.lit (.int .i64 c267_o3)])) ∧ st.H 38 = some (.cells (some 97) ([.mt (mtK kv34 r76) (mtV ev46 r76)])) ∧ st.H 39 = some (.cells (some 97) ([.mt (mtK kv34 r86) (mtV ev46 r86)])) ∧ st.H 43 = some (.cells (some 100) ([VV.fn (Fn.func 75) [] [.ptr 38 0, .ptr 39 0]])) ∧ st.H 55 = some (.cells (some 27) (cGSightStreet x0_s)) ∧ st.H 59 = some (.cells (some 108) ([VV.fn (Fn.func 126) [] [.ptr 55 0]])) ∧ st.H 60 = some (.cells (some 100) ([VV.fn (Fn.func 75) [] [.ptr 38 0, .ptr 39 0]])) ∧ st.H 64 = some (.deferred (some [])) ∧ st.H 65 = some LB159 ∧ st.H 66 = some (.cells (some 100) ([.yl 65])) ∧ st.H 68 = some (.deferred (some [])) ∧ st.H 69 = some LB152 ∧ st.H (nx123 + 43) = some (.cells (some 27) (cGSightStreet x0_s)) ∧ st.H (nx123 + 45) = some (.cells (some 3) ([.lit (.int .i64 c267_o4)])) ∧ st.H (nx123 + 57) = some (.cells (some 27) (cGSightStreet x0_s)) ∧ st.H (nx123 + 61) = some (.cells (some 108) ([VV.fn (Fn.func 126) [] [.ptr (nx123 + 57) 0]])) ∧ st.H (nx123 + 62) = some (.cells (some 100) ([VV.fn (Fn.func 75) [] [.ptr 38 0, .ptr 39 0]])) ∧ st.H (nx123 + 66) = some (.deferred (some [])) ∧ st.H (nx123 + 67) = some LO265 ∧ st.H (nx123 + 68) = some (.cells (some 100) ([.yl (nx123 + 67)])) ∧ st.H (nx123 + 70) = some (.deferred (some [])) ∧ st.H (nx123 + 71) = some LO266 ∧ st.tm 0 = .yl (nx123 + 71) ∧ st.tm 1 = .ptr (nx123 + 57) 0 ∧ st.tm 7 = .lit (.int .i64 (IntKind.i64.wrap (x0_s.Length + 1))) ∧ st.tm 8 = .lit (.int .i64 c267_8) ∧ K267 (f267 p267 c267_8 c267_o0 c267_o1 c267_o2 c267_o3 c267_o4)) := ⟨_, rfl⟩
    refine loopK mixed (by kernel_rfl) I267 (Int.toNat ((IntKind.i64.wrap (x0_s.Length + 1)) - 0)) (by rw [hI267]; refine ⟨Int.toNat ((IntKind.i64.wrap (x0_s.Length + 1)) - 0), 0, c123_o0, c123_o1, c123_o2, c123_o3, 0, rfl, (by rfl), rfl, rfl, (show nx123 + 76 ≤ nx123 + 76 by omega), ?_, ?_, ?_, ?_, ?_, ?_, ?_, ?_, ?_, ?_, ?_, ?_, ?_, ?_, ?_, ?_, ?_, ?_, ?_, ?_, ?_, ?_, ?_, ?_, ?_, ?_, ?_, ?_, ?_, h⟩ <;> first | (simp only [ua, encM_nil, b156, d157, d158, nm, seval] <;> rfl) | rfl) ?_
    rintro m ⟨tm, H, nx267, df⟩ hinv
    rw [hI267] at hinv
    obtain ⟨p267, c267_8, c267_o0, c267_o1, c267_o2, c267_o3, c267_o4, rfl, hi267, hp267, hdf, hn267, H268, H269, H270, H271, H272, H273, H274, H275, H276, H277, H278, H279, H280, H281, H282, H283, H284, H285, H286, H287, H288, H289, H290, H291, H292, e293, e294, e295, e296, h⟩ := hinv
    simp only at hdf hn267 H268 H269 H270 H271 H272 H273 H274 H275 H276 H277 H278 H279 H280 H281 H282 H283 H284 H285 H286 H287 H288 H289 H290 H291 H292 e293 e294 e295 e296
    have n297 := base_ne0 (m := 74) (b := nx267) (by omega)
    have n298 := base_ne (a := nx96) (m := 6) (b := nx267) (by omega)
    have n299 := base_ne (a := nx123) (m := 76) (b := nx267) (by omega)
    subst hdf hf267
    cases p267 with
    | zero =>
     have d300 : (decide (c267_8 < (IntKind.i64.wrap (x0_s.Length + 1)))) = false := cnt_not_lt hp267
     simp only [g_sight_Both_l2, hs, reduceCtorEq] at h
     replace h := kG267 _ h
     try dsimp only at h
     try simp only [hs] at h
     try simp only [vz, mq, mqm, flr, tyf, mqt, b156, (ix24 o75), (ix24 o85), d157, d158, n297, n298, n299, e293, e294, e295, e296, H268, H269, H270, H271, H272, H273, H274, H275, H276, H277, H278, H279, H280, H281, H282, H283, H284, H285, H286, H287, H288, H289, H290, H291, H292, d300, nm, seval]
     refine opd_normal (x := .tup []) (by simp [Tryz.results126, resV, resL]) ?_
     refine rangeEnd_go hLO266 (by simp only [updH_apply, without_apply, b156, n297, n298, n299, H268, H269, H270, H271, H272, H273, H274, H275, H276, H277, H278, H279, H280, H281, H282, H283, H284, H285, H286, H287, H288, H289, H290, H291, H292, nm, seval] <;> rfl) ?_
     intro LX301
     try simp only [vz, mq, mqm, flr, tyf, mqt, b156, (ix24 o75), (ix24 o85), d157, d158, n297, n298, n299, H268, H269, H270, H271, H272, H273, H274, H275, H276, H277, H278, H279, H280, H281, H282, H283, H284, H285, H286, H287, H288, H289, H290, H291, H292, d300, nm, seval]
     refine opd_collN (by simp only [updH_apply, without_apply, b156, n297, n298, n299, H268, H269, H270, H271, H272, H273, H274, H275, H276, H277, H278, H279, H280, H281, H282, H283, H284, H285, H286, H287, H288, H289, H290, H291, H292, nm, seval] <;> rfl) ?_
     try simp only [vz, mq, mqm, flr, tyf, mqt, b156, (ix24 o75), (ix24 o85), d157, d158, n297, n298, n299, H268, H269, H270, H271, H272, H273, H274, H275, H276, H277, H278, H279, H280, H281, H282, H283, H284, H285, H286, H287, H288, H289, H290, H291, H292, d300, nm, seval]
     refine opd_normal (x := .tup []) (by simp [Tryz.results127, resV, resL]) ?_
     refine rangeEnd_go hLO265 (by simp only [updH_apply, without_apply, b156, n297, n298, n299, H268, H269, H270, H271, H272, H273, H274, H275, H276, H277, H278, H279, H280, H281, H282, H283, H284, H285, H286, H287, H288, H289, H290, H291, H292, nm, seval] <;> rfl) ?_
     intro LX302
     try simp only [vz, mq, mqm, flr, tyf, mqt, b156, (ix24 o75), (ix24 o85), d157, d158, n297, n298, n299, H268, H269, H270, H271, H272, H273, H274, H275, H276, H277, H278, H279, H280, H281, H282, H283, H284, H285, H286, H287, H288, H289, H290, H291, H292, d300, nm, seval]
     refine opd_coll (by simp only [updH_apply, without_apply, b156, n297, n298, n299, H268, H269, H270, H271, H272, H273, H274, H275, H276, H277, H278, H279, H280, H281, H282, H283, H284, H285, H286, H287, H288, H289, H290, H291, H292, nm, seval] <;> rfl) ?_
     try simp only [vz, mq, mqm, flr, tyf, mqt, b156, (ix24 o75), (ix24 o85), d157, d158, n297, n298, n299, H268, H269, H270, H271, H272, H273, H274, H275, H276, H277, H278, H279, H280, H281, H282, H283, H284, H285, H286, H287, H288, H289, H290, H291, H292, d300, nm, seval]
     refine opd_ret (x := (.lit (.int .i64 c267_o4))) (by first | (simp only [Tryz.results57, resV, resL, resV1, tgt_ptr, tgt_tp, uw, cr, tyf, mqt, b156, (ix24 o75), (ix24 o85), d157, d158, n297, n298, n299, H268, H269, H270, H271, H272, H273, H274, H275, H276, H277, H278, H279, H280, H281, H282, H283, H284, H285, H286, H287, H288, H289, H290, H291, H292, d300, nm, seval] <;> rfl) | rfl) ?_
     try simp only [vz, mq, mqm, flr, tyf, mqt, b156, (ix24 o75), (ix24 o85), d157, d158, n297, n298, n299, H268, H269, H270, H271, H272, H273, H274, H275, H276, H277, H278, H279, H280, H281, H282, H283, H284, H285, H286, H287, H288, H289, H290, H291, H292, d300, e166, e167, e168, e169, e170, e171, nm, seval]
     refine flGo_lastE ?_
     simp only [vz, mq, mqm, flr, tyf, mqt, b156, (ix24 o75), (ix24 o85), d157, d158, n297, n298, n299, H268, H269, H270, H271, H272, H273, H274, H275, H276, H277, H278, H279, H280, H281, H282, H283, H284, H285, H286, H287, H288, H289, H290, H291, H292, d300, e166, e167, e168, e169, e170, e171, nm, seval]
     refine flR_end ⟨?_, ?_⟩
     ·try simp only [traceR_cons, traceR_nil, hitK_quiet, hitK_nil, and_true, true_and]
      repeat' (first | exact trivial | refine And.intro ?_ ?_ | rw [hitK_quiet] | rw [hitK_cons] | exact Or.inl (by decide +kernel) | exact Or.inl (by dsimp only; decide +kernel) | (refine Or.inr ⟨?_, ?_⟩ <;> simp; done) | (refine Or.inr ⟨?_, ?_⟩ <;> simp <;> omega) | (refine Or.inr ⟨?_, ?_⟩ <;> simp [VEff.wr] <;> omega))
     try simp only [vz, mq, mqm, flr, tyf, mqt, b156, (ix24 o75), (ix24 o85), d157, d158, n297, n298, n299, H268, H269, H270, H271, H272, H273, H274, H275, H276, H277, H278, H279, H280, H281, H282, H283, H284, H285, H286, H287, H288, H289, H290, H291, H292, d300, e166, e167, e168, e169, e170, e171, nm, seval]
     rw [rnd_ret (by simp only [updH_apply, without_apply, b156, n297, n298, n299, H268, H269, H270, H271, H272, H273, H274, H275, H276, H277, H278, H279, H280, H281, H282, H283, H284, H285, H286, H287, H288, H289, H290, H291, H292, nm, seval] <;> rfl)]
     try simp only [vz, mq, mqm, flr, tyf, mqt, b156, (ix24 o75), (ix24 o85), d157, d158, n297, n298, n299, H268, H269, H270, H271, H272, H273, H274, H275, H276, H277, H278, H279, H280, H281, H282, H283, H284, H285, H286, H287, H288, H289, H290, H291, H292, d300, e153, e154, e155, nm, seval]
     rw [rnd_ret (by simp only [updH_apply, without_apply, b156, n297, n298, n299, H268, H269, H270, H271, H272, H273, H274, H275, H276, H277, H278, H279, H280, H281, H282, H283, H284, H285, H286, H287, H288, H289, H290, H291, H292, nm, seval] <;> rfl)]
     try simp only [vz, mq, mqm, flr, tyf, mqt, b156, (ix24 o75), (ix24 o85), d157, d158, n297, n298, n299, H268, H269, H270, H271, H272, H273, H274, H275, H276, H277, H278, H279, H280, H281, H282, H283, H284, H285, H286, H287, H288, H289, H290, H291, H292, d300, e140, e141, e142, e143, e144, e145, e146, nm, seval]
     refine opd_ret (x := .tup []) (by simp [Tryz.results126, resV, resL]) ?_
     replace h := kB123 _ _ h
     try dsimp only at h
     replace h := kB96 _ _ h
     try dsimp only at h
     refine rangeEnd_ret hLD152 (by simp only [updH_apply, without_apply, b156, n297, n298, n299, H268, H269, H270, H271, H272, H273, H274, H275, H276, H277, H278, H279, H280, H281, H282, H283, H284, H285, H286, H287, H288, H289, H290, H291, H292, nm, seval] <;> rfl) ?_
     intro LX303
     try simp only [vz, mq, mqm, flr, tyf, mqt, b156, (ix24 o75), (ix24 o85), d157, d158, n297, n298, n299, H268, H269, H270, H271, H272, H273, H274, H275, H276, H277, H278, H279, H280, H281, H282, H283, H284, H285, H286, H287, H288, H289, H290, H291, H292, d300, nm, seval]
     refine opd_coll (by simp only [updH_apply, without_apply, b156, n297, n298, n299, H268, H269, H270, H271, H272, H273, H274, H275, H276, H277, H278, H279, H280, H281, H282, H283, H284, H285, H286, H287, H288, H289, H290, H291, H292, nm, seval] <;> rfl) ?_
     try simp only [vz, mq, mqm, flr, tyf, mqt, b156, (ix24 o75), (ix24 o85), d157, d158, n297, n298, n299, H268, H269, H270, H271, H272, H273, H274, H275, H276, H277, H278, H279, H280, H281, H282, H283, H284, H285, H286, H287, H288, H289, H290, H291, H292, d300, nm, seval]
     refine opd_ret (x := .tup []) (by simp [Tryz.results127, resV, resL]) ?_
     refine rangeEnd_ret hLD159 (by simp only [updH_apply, without_apply, b156, n297, n298, n299, H268, H269, H270, H271, H272, H273, H274, H275, H276, H277, H278, H279, H280, H281, H282, H283, H284, H285, H286, H287, H288, H289, H290, H291, H292, nm, seval] <;> rfl) ?_
     intro LX304
     try simp only [vz, mq, mqm, flr, tyf, mqt, b156, (ix24 o75), (ix24 o85), d157, d158, n297, n298, n299, H268, H269, H270, H271, H272, H273, H274, H275, H276, H277, H278, H279, H280, H281, H282, H283, H284, H285, H286, H287, H288, H289, H290, H291, H292, d300, e88, e89, e90, e91, e92, e93, nm, seval]
     refine opd_coll (by simp only [updH_apply, without_apply, b156, n297, n298, n299, H268, H269, H270, H271, H272, H273, H274, H275, H276, H277, H278, H279, H280, H281, H282, H283, H284, H285, H286, H287, H288, H289, H290, H291, H292, nm, seval] <;> rfl) ?_
     try simp only [vz, mq, mqm, flr, tyf, mqt, b156, (ix24 o75), (ix24 o85), d157, d158, n297, n298, n299, H268, H269, H270, H271, H272, H273, H274, H275, H276, H277, H278, H279, H280, H281, H282, H283, H284, H285, H286, H287, H288, H289, H290, H291, H292, d300, e88, e89, e90, e91, e92, e93, nm, seval]
     refine opd_ret (x := (.tup [.agg ([.lit (.int .i64 c96_8)] ++ [.lit (.int .i64 (c123_13 + 1))]), .lit (.int .i64 c267_o4), .lit (.int .i64 0)])) (by first | (simp only [Tryz.results30, resV, resL, resV1, tgt_ptr, tgt_tp, uw, cr, tyf, mqt, b156, (ix24 o75), (ix24 o85), d157, d158, n297, n298, n299, H268, H269, H270, H271, H272, H273, H274, H275, H276, H277, H278, H279, H280, H281, H282, H283, H284, H285, H286, H287, H288, H289, H290, H291, H292, d300, e88, e89, e90, e91, e92, e93, nm, seval] <;> rfl) | rfl) ?_
     obtain rfl := kF _ h
     refine rr_tree ?_ ?_
     ·simp only [tre, tytre, Bool.and_self]
     ·first | (simp only [outV, uw, showV_ref, cr, tyf, mqt, nrm, tynrm, b156, (ix24 o75), (ix24 o85), d157, d158, n297, n298, n299, H268, H269, H270, H271, H272, H273, H274, H275, H276, H277, H278, H279, H280, H281, H282, H283, H284, H285, H286, H287, H288, H289, H290, H291, H292, d300, e88, e89, e90, e91, e92, e93, nm, seval] <;> rfl) | rfl
    | succ p267 =>
     have d305 : (decide (c267_8 < (IntKind.i64.wrap (x0_s.Length + 1)))) = true := cnt_lt hp267
     have w306 := cnt_wrap hi267 hp267 g97
     simp only [g_sight_Both_l2, hs, reduceCtorEq] at h
     simp only [vz, mq, mqm, flr, tyf, mqt, b156, (ix24 o75), (ix24 o85), d157, d158, n297, n298, n299, e293, e294, e295, e296, H268, H269, H270, H271, H272, H273, H274, H275, H276, H277, H278, H279, H280, H281, H282, H283, H284, H285, H286, H287, H288, H289, H290, H291, H292, d305, w306, nm, seval]
     obtain ⟨K307, h, kR307, kG307, kB307, kN307⟩ := lbind_intro h kN267
     obtain ⟨f307, hf307, h⟩ := call7 h
     obtain ⟨I307, hI307⟩ : ∃ I : Nat → St → Prop, I = (fun m st => ∃ (p307 : Nat) (c307_13 : Int) (c307_o0 : Int) (c307_o1 : Int) (c307_o2 : Int) (c307_o3 : Int) (c307_o4 : Int), p307 = m ∧ loOk c307_13 = true ∧ Int.toNat (x0_s.Width - c307_13) = p307 ∧ st.df = [] ∧ nx267 + 6 ≤ st.nx ∧ st.H 0 = some (.cells (some 27) (cGSightStreet x0_s)) ∧ st.H 1 = some (.cells (some 34) ([.lit (.int .i64 c307_o0)] ++ [.lit (.int .i64 c307_o1)])) ∧ st.H 2 = some (.cells (some 3) ([.lit (.int .i64 c307_o2)])) ∧ st.H 3 = some (.cells (some 30) ([.lit (.int .i64 c307_o3)])) ∧ st.H 38 = some (.cells (some 97) ([.mt (mtK kv34 r76) (mtV ev46 r76)])) ∧ st.H 39 = some (.cells (some 97) ([.mt (mtK kv34 r86) (mtV ev46 r86)])) ∧ st.H 43 = some (.cells (some 100) ([VV.fn (Fn.func 75) [] [.ptr 38 0, .ptr 39 0]])) ∧ st.H 55 = some (.cells (some 27) (cGSightStreet x0_s)) ∧ st.H 59 = some (.cells (some 108) ([VV.fn (Fn.func 126) [] [.ptr 55 0]])) ∧ st.H 60 = some (.cells (some 100) ([VV.fn (Fn.func 75) [] [.ptr 38 0, .ptr 39 0]])) ∧ st.H 64 = some (.deferred (some [])) ∧ st.H 65 = some LB159 ∧ st.H 66 = some (.cells (some 100) ([.yl 65])) ∧ st.H 68 = some (.deferred (some [])) ∧ st.H 69 = some LB152 ∧ st.H (nx123 + 43) = some (.cells (some 27) (cGSightStreet x0_s)) ∧ st.H (nx123 + 45) = some (.cells (some 3) ([.lit (.int .i64 c307_o4)])) ∧ st.H (nx123 + 57) = some (.cells (some 27) (cGSightStreet x0_s)) ∧ st.H (nx123 + 61) = some (.cells (some 108) ([VV.fn (Fn.func 126) [] [.ptr (nx123 + 57) 0]])) ∧ st.H (nx123 + 62) = some (.cells (some 100) ([VV.fn (Fn.func 75) [] [.ptr 38 0, .ptr 39 0]])) ∧ st.H (nx123 + 66) = some (.deferred (some [])) ∧ st.H (nx123 + 67) = some LO265 ∧ st.H (nx123 + 68) = some (.cells (some 100) ([.yl (nx123 + 67)])) ∧ st.H (nx123 + 70) = some (.deferred (some [])) ∧ st.H (nx123 + 71) = some LO266 ∧ st.tm 0 = .yl (nx123 + 71) ∧ st.tm 1 = .ptr (nx123 + 57) 0 ∧ st.tm 3 = .lit (.int .i64 c267_8) ∧ st.tm 7 = .lit (.int .i64 (IntKind.i64.wrap (x0_s.Length + 1))) ∧ st.tm 8 = .lit (.int .i64 c267_8) ∧ st.tm 12 = .lit (.int .i64 x0_s.Width) ∧ st.tm 13 = .lit (.int .i64 c307_13) ∧ K307 (f307 p307 c307_13 c307_o0 c307_o1 c307_o2 c307_o3 c307_o4)) := ⟨_, rfl⟩
     refine loopK mixed (by kernel_rfl) I307 (Int.toNat (x0_s.Width - 0)) (by rw [hI307]; refine ⟨Int.toNat (x0_s.Width - 0), 0, c267_o0, c267_o1, c267_o2, c267_o3, c267_o4, rfl, (by rfl), rfl, rfl, (show nx267 + 6 ≤ nx267 + 6 by omega), ?_, ?_, ?_, ?_, ?_, ?_, ?_, ?_, ?_, ?_, ?_, ?_, ?_, ?_, ?_, ?_, ?_, ?_, ?_, ?_, ?_, ?_, ?_, ?_, ?_, e293, e294, ?_, e295, e296, ?_, ?_, h⟩ <;> first | (simp only [ua, encM_nil, b156, d157, d158, n297, n298, n299, e293, e294, e295, e296, H268, H269, H270, H271, H272, H273, H274, H275, H276, H277, H278, H279, H280, H281, H282, H283, H284, H285, H286, H287, H288, H289, H290, H291, H292, d305, w306, nm, seval] <;> rfl) | rfl) ?_
     rintro m ⟨tm, H, nx307, df⟩ hinv
     rw [hI307] at hinv
     obtain ⟨p307, c307_13, c307_o0, c307_o1, c307_o2, c307_o3, c307_o4, rfl, hi307, hp307, hdf, hn307, H308, H309, H310, H311, H312, H313, H314, H315, H316, H317, H318, H319, H320, H321, H322, H323, H324, H325, H326, H327, H328, H329, H330, H331, H332, e333, e334, e335, e336, e337, e338, e339, h⟩ := hinv
     simp only at hdf hn307 H308 H309 H310 H311 H312 H313 H314 H315 H316 H317 H318 H319 H320 H321 H322 H323 H324 H325 H326 H327 H328 H329 H330 H331 H332 e333 e334 e335 e336 e337 e338 e339
     have n340 := base_ne0 (m := 74) (b := nx307) (by omega)
     have n341 := base_ne (a := nx96) (m := 6) (b := nx307) (by omega)
     have n342 := base_ne (a := nx123) (m := 76) (b := nx307) (by omega)
     have n343 := base_ne (a := nx267) (m := 6) (b := nx307) (by omega)
     subst hdf hf307
     cases p307 with
     | zero =>
      have d344 : (decide (c307_13 < x0_s.Width)) = false := cnt_not_lt hp307
      simp only [g_sight_Both_l3, hs, reduceCtorEq] at h
      replace h := kG307 _ h
      try dsimp only at h
      try simp only [hs] at h
      simp only [vz, mq, mqm, flr, tyf, mqt, b156, (ix24 o75), (ix24 o85), d157, d158, n297, n298, n299, d305, w306, n340, n341, n342, n343, e333, e334, e335, e336, e337, e338, e339, H308, H309, H310, H311, H312, H313, H314, H315, H316, H317, H318, H319, H320, H321, H322, H323, H324, H325, H326, H327, H328, H329, H330, H331, H332, d344, nm, seval]
      exact ⟨p267, Nat.lt_succ_self _, by rw [hI267]; refine ⟨p267, c267_8 + 1, c307_o0, c307_o1, c307_o2, c307_o3, c307_o4, rfl, cnt_lo hi267, cnt_next hp267, rfl, (show nx123 + 76 ≤ nx307 + 3 by omega), ?_, ?_, ?_, ?_, ?_, ?_, ?_, ?_, ?_, ?_, ?_, ?_, ?_, ?_, ?_, ?_, ?_, ?_, ?_, ?_, ?_, ?_, ?_, ?_, ?_, e333, e334, e336, ?_, h⟩ <;> first | (simp only [ua, encM_nil, b156, d157, d158, n297, n298, n299, d305, w306, n340, n341, n342, n343, e333, e334, e335, e336, e337, e338, e339, H308, H309, H310, H311, H312, H313, H314, H315, H316, H317, H318, H319, H320, H321, H322, H323, H324, H325, H326, H327, H328, H329, H330, H331, H332, d344, nm, seval] <;> rfl) | rfl⟩
     | succ p307 =>
      have d345 : (decide (c307_13 < x0_s.Width)) = true := cnt_lt hp307
      have w346 := cnt_wrap hi307 hp307 g124
      simp only [g_sight_Both_l3, hs, reduceCtorEq] at h
      try simp only [vz, mq, mqm, flr, tyf, mqt, b156, (ix24 o75), (ix24 o85), d157, d158, n297, n298, n299, d305, w306, n340, n341, n342, n343, e333, e334, e335, e336, e337, e338, e339, H308, H309, H310, H311, H312, H313, H314, H315, H316, H317, H318, H319, H320, H321, H322, H323, H324, H325, H326, H327, H328, H329, H330, H331, H332, d345, w346, rg, nm, seval]
      refine yield_open mixed (psl := [6]) hLO266 (by simp only [updH_apply, without_apply, b156, n297, n298, n299, n340, n341, n342, n343, H308, H309, H310, H311, H312, H313, H314, H315, H316, H317, H318, H319, H320, H321, H322, H323, H324, H325, H326, H327, H328, H329, H330, H331, H332, nm, seval] <;> rfl) tmL_length rfl (by kernel_rfl) (by kernel_rfl) ?_
      intro LB347 LD347 hLB347 hLD347
      refine cwp_tmcut (fun tm => tm 2 = .ptr (nx123 + 62) 0 ∧ tm 3 = .ptr (nx123 + 68) 0 ∧ tm 6 = .agg ([.lit (.int .i64 c267_8)] ++ [.lit (.int .i64 (c307_13 + 1))]) ∧ True) (by refine ⟨?_, ?_, ?_, trivial⟩ <;> (simp only [round_tm, round_tm0, Tryz.ntmps127, e333, e334, e335, e336, e337, e338, e339, nm, seval] <;> first | rfl | trivial)) ?_
      rintro tm ⟨e348, e349, e350, _⟩
      have b351 := And.intro b156 (And.intro d157 (And.intro d158 (And.intro n297 (And.intro n298 (And.intro n299 (And.intro d305 (And.intro w306 (And.intro n340 (And.intro n341 (And.intro n342 (And.intro n343 (And.intro H308 (And.intro H309 (And.intro H310 (And.intro H311 (And.intro H312 (And.intro H313 (And.intro H314 (And.intro H315 (And.intro H316 (And.intro H317 (And.intro H318 (And.intro H319 (And.intro H320 (And.intro H321 (And.intro H322 (And.intro H323 (And.intro H324 (And.intro H325 (And.intro H326 (And.intro H327 (And.intro H328 (And.intro H329 (And.intro H330 (And.intro H331 (And.intro H332 (And.intro d345 w346)))))))))))))))))))))))))))))))))))))
      try simp only [vz, mq, mqm, flr, tyf, mqt, b351, (ix24 o75), (ix24 o85), e348, e349, e350, nm, seval]
      rw [rndAs_normal (by simp only [updH_apply, without_apply, b351, nm, seval] <;> rfl)]
      try simp only [vz, mq, mqm, flr, tyf, mqt, b351, (ix24 o75), (ix24 o85), e348, e349, e350, nm, seval]
      refine kopen ?_
      rw [openK_eq]
      refine VOpen.run mixed Tryz.call75 Tryz.func75 rfl (by simp [Tryz.ntmps75]; kernel_rfl) ?_
      cases d352 : ((mapGet q34 0 r76 (GSightPlace.mk c267_8 (c307_13 + 1))) == 3)
      ·simp only [d352, hs] at h
       try simp only [vz, mq, mqm, flr, tyf, mqt, b351, (ix24 o75), (ix24 o85), d352, nm, seval]
       refine opd_ret (x := (.lit (.bool false))) (by first | (simp only [Tryz.results75, resV, resL, resV1, tgt_ptr, tgt_tp, uw, cr, tyf, mqt, b351, (ix24 o75), (ix24 o85), d352, nm, seval] <;> rfl) | rfl) ?_
       try simp only [vz, mq, mqm, flr, tyf, mqt, b351, (ix24 o75), (ix24 o85), d352, e348, e349, e350, nm, seval]
       rw [rnd_normal (by simp only [updH_apply, without_apply, b351, nm, seval] <;> rfl)]
       simp only [vz, mq, mqm, flr, tyf, mqt, b351, (ix24 o75), (ix24 o85), d352, e333, e334, e335, e336, e337, e338, e339, nm, seval]
       exact ⟨p307, Nat.lt_succ_self _, by rw [hI307]; refine ⟨p307, c307_13 + 1, c307_o0, c307_o1, c307_o2, c307_o3, c307_o4, rfl, cnt_lo hi307, cnt_next hp307, rfl, (show nx267 + 6 ≤ nx307 + 36 by omega), ?_, ?_, ?_, ?_, ?_, ?_, ?_, ?_, ?_, ?_, ?_, ?_, ?_, ?_, ?_, ?_, ?_, ?_, ?_, ?_, ?_, ?_, ?_, ?_, ?_, e333, e334, e335, e336, e337, e338, ?_, h⟩ <;> first | (simp only [ua, encM_nil, b351, d352, e333, e334, e335, e336, e337, e338, e339, nm, seval] <;> rfl) | rfl⟩
      simp only [d352, hs] at h
      try simp only [vz, mq, mqm, flr, tyf, mqt, b351, (ix24 o75), (ix24 o85), d352, nm, seval]
      refine opd_ret (x := (.lit (.bool ((mapGet q34 0 r86 (GSightPlace.mk c267_8 (c307_13 + 1))) == 3)))) (by first | (simp only [Tryz.results75, resV, resL, resV1, tgt_ptr, tgt_tp, uw, cr, tyf, mqt, b351, (ix24 o75), (ix24 o85), d352, nm, seval] <;> rfl) | rfl) ?_
      cases d353 : ((mapGet q34 0 r86 (GSightPlace.mk c267_8 (c307_13 + 1))) == 3)
      ·simp only [d353, hs] at h
       try simp only [vz, mq, mqm, flr, tyf, mqt, b351, (ix24 o75), (ix24 o85), d352, e348, e349, e350, d353, nm, seval]
       rw [rnd_normal (by simp only [updH_apply, without_apply, b351, nm, seval] <;> rfl)]
       simp only [vz, mq, mqm, flr, tyf, mqt, b351, (ix24 o75), (ix24 o85), d352, d353, e333, e334, e335, e336, e337, e338, e339, nm, seval]
       exact ⟨p307, Nat.lt_succ_self _, by rw [hI307]; refine ⟨p307, c307_13 + 1, c307_o0, c307_o1, c307_o2, c307_o3, c307_o4, rfl, cnt_lo hi307, cnt_next hp307, rfl, (show nx267 + 6 ≤ nx307 + 36 by omega), ?_, ?_, ?_, ?_, ?_, ?_, ?_, ?_, ?_, ?_, ?_, ?_, ?_, ?_, ?_, ?_, ?_, ?_, ?_, ?_, ?_, ?_, ?_, ?_, ?_, e333, e334, e335, e336, e337, e338, ?_, h⟩ <;> first | (simp only [ua, encM_nil, b351, d352, d353, e333, e334, e335, e336, e337, e338, e339, nm, seval] <;> rfl) | rfl⟩
      simp only [d353, hs] at h
      try simp only [vz, mq, mqm, flr, tyf, mqt, b351, (ix24 o75), (ix24 o85), d352, e348, e349, e350, d353, rg, nm, seval]
      refine yield_open mixed (psl := [9]) hLO265 (by simp only [updH_apply, without_apply, b351, nm, seval] <;> rfl) tmL_length rfl (by kernel_rfl) (by kernel_rfl) ?_
      intro LB354 LD354 hLB354 hLD354
      refine cwp_tmcut (fun tm => tm 5 = .ptr (nx123 + 45) 0 ∧ True) (by refine ⟨?_, trivial⟩ <;> (simp only [round_tm, round_tm0, Tryz.ntmps57, e348, e349, e350, nm, seval] <;> first | rfl | trivial)) ?_
      rintro tm ⟨e355, _⟩
      try simp only [vz, mq, mqm, flr, tyf, mqt, b351, (ix24 o75), (ix24 o85), d352, d353, e355, nm, seval]
      rw [rndAs_normal (by simp only [updH_apply, without_apply, b351, nm, seval] <;> rfl)]
      try simp only [vz, mq, mqm, flr, tyf, mqt, b351, (ix24 o75), (ix24 o85), d352, d353, e355, nm, seval]
      rw [rnd_normal (by simp only [updH_apply, without_apply, b351, nm, seval] <;> rfl)]
      try simp only [vz, mq, mqm, flr, tyf, mqt, b351, (ix24 o75), (ix24 o85), d352, d353, e348, e349, e350, nm, seval]
      rw [rnd_normal (by simp only [updH_apply, without_apply, b351, nm, seval] <;> rfl)]
      simp only [vz, mq, mqm, flr, tyf, mqt, b351, (ix24 o75), (ix24 o85), d352, d353, e333, e334, e335, e336, e337, e338, e339, nm, seval]
      exact ⟨p307, Nat.lt_succ_self _, by rw [hI307]; refine ⟨p307, c307_13 + 1, c307_o0, c307_o1, c307_o2, c307_o3, IntKind.i64.wrap (c307_o4 + 1), rfl, cnt_lo hi307, cnt_next hp307, rfl, (show nx267 + 6 ≤ nx307 + 39 by omega), ?_, ?_, ?_, ?_, ?_, ?_, ?_, ?_, ?_, ?_, ?_, ?_, ?_, ?_, ?_, ?_, ?_, ?_, ?_, ?_, ?_, ?_, ?_, ?_, ?_, e333, e334, e335, e336, e337, e338, ?_, h⟩ <;> first | (simp only [ua, encM_nil, b351, d352, d353, e333, e334, e335, e336, e337, e338, e339, nm, seval] <;> rfl) | rfl⟩
 simp only [d67, hs] at h
 try simp only [vz, mq, mqm, flr, tyf, mqt, d44, d55, e58, e59, e60, e61, e62, e63, e64, e65, d66, d67, nm, seval]
 refine opd_ret (x := (.tup [.agg ([.lit (.int .i64 0)] ++ [.lit (.int .i64 0)]), .lit (.int .i64 0), .lit (.int .i64 2)])) (by first | (simp only [Tryz.results30, resV, resL, resV1, tgt_ptr, tgt_tp, uw, cr, tyf, mqt, d44, d55, e58, e59, e60, e61, e62, e63, e64, e65, d66, d67, nm, seval] <;> rfl) | rfl) ?_
 obtain rfl := kF _ h
 refine rr_tree ?_ ?_
 ·simp only [tre, tytre, Bool.and_self]
 ·first | (simp only [outV, uw, showV_ref, cr, tyf, mqt, nrm, tynrm, d44, d55, e58, e59, e60, e61, e62, e63, e64, e65, d66, d67, nm, seval] <;> rfl) | rfl
end Go.V
end
