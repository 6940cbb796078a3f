/- Part of a proof: a logic of values by content, lifted functions, what follows. -/
import Derived.Test.YtbpeickbdiihcaaGreatDoorRbc
import Derived.Test.YtbpeickbdiihcaaGreatDoorRbj
import Derived.Test.YtbpeickbdiihcaaGreatDoorRbf
set_option linter.all false
set_option maxRecDepth 4000
set_option maxHeartbeats 4000000
section
namespace Go.V
open Go Go.Proofs
def g_sight_enlarged_l0 (x1_times : Int) : List GSightLetter → Int → (List GSightLetter) → Option (LOut (GSightBoard) ((List GSightLetter)))
 | [], c0_14, c0_o0 => some (.go c0_o0)
 | e0 :: p0, c0_14, c0_o0 => Option.bind (getI c0_o0 c0_14) (fun x2 => g_sight_enlarged_l0 x1_times p0 (c0_14 + 1) (List.set c0_o0 (Int.toNat c0_14) (GSightLetter.mk (IntKind.i64.wrap (x2.Height * x1_times)) (IntKind.i64.wrap (x2.Width * x1_times)) (IntKind.i64.wrap (x2.Stroke * x1_times)) (IntKind.i64.wrap (x2.Space * x1_times)))))
def g_sight_enlarged (x0_b : GSightBoard) (x1_times : Int) : Option (GSightBoard) := Option.bind (g_slices_Clone_SightLetter x0_b.Letters) (fun r1 => cond (lenOk r1) (lbind (g_sight_enlarged_l0 x1_times r1 0 r1) (fun r4 => some r4) (fun c3 => some (GSightBoard.mk x0_b.At c3)) (fun _ _ => none)) none)
theorem g_sight_enlarged_ok (x0_b : GSightBoard) (x1_times : Int) (R : GSightBoard) (h : g_sight_enlarged x0_b x1_times = some R) : VPure Tryz.prog G0 89 [.agg (cGSightBoard x0_b), .lit (.int .i64 x1_times)] (.tree (.agg (cGSightBoard R))) := by
 refine VPure.runR mixed Tryz.call89 Tryz.func89 rfl (by simp [Tryz.ntmps89]; kernel_rfl) ?_
 obtain ⟨KF, h, kF, kN⟩ := fun_intro h
 simp only [g_sight_enlarged] at h
 cases o6 : (g_slices_Clone_SightLetter x0_b.Letters) with
 | none =>
  simp only [o6, hs, reduceCtorEq] at h
  exact absurd h kN
 | some r5 =>
  simp only [o6, hs, reduceCtorEq] at h
  simp only [vz, tyf, nm, seval]
  refine kown (args0 := [.sl (cellsL cGSightLetter x0_b.Letters) (List.length x0_b.Letters) false]) (by first | (simp only [nrm, tynrm] <;> rfl) | rfl) (by simp only [tre, tytre, Bool.and_self]) (g_slices_Clone_SightLetter_ok _ _ o6) ?_
  cases g8 : (lenOk r5)
  ·simp only [g8, hs, reduceCtorEq] at h
   exact absurd h kN
  simp only [g8, hs, reduceCtorEq] at h
  simp only [vz, tyf, g8, nm, seval]
  obtain ⟨K7, h, kR7, kG7, kB7, kN7⟩ := lbind_intro h kN
  obtain ⟨f7, hf7, h⟩ := call3 h
  obtain ⟨I7, hI7⟩ : ∃ I : Nat → St → Prop, I = (fun m st => ∃ (p7 : List GSightLetter) (c7_14 : Int) (c7_o0 : List GSightLetter), m = List.length p7 ∧ 0 ≤ c7_14 ∧ List.drop (Int.toNat c7_14) r5 = p7 ∧ st.df = [] ∧ 11 ≤ st.nx ∧ st.H 0 = some (.cells (some 42) ([.lit (.int .i64 x0_b.At)] ++ [.ref 4 0 (List.length c7_o0) 4 (List.length c7_o0)])) ∧ st.H 1 = some (.cells (some 42) ([.lit (.int .i64 0)] ++ [.lit (.slice none 0 0)])) ∧ st.H 4 = some (.cells (none) (cellsL cGSightLetter c7_o0)) ∧ st.tm 1 = .lit (.int .i64 x1_times) ∧ st.tm 2 = .ptr 0 0 ∧ st.tm 4 = .ptr 1 0 ∧ st.tm 12 = .ref 4 0 (List.length c7_o0) 4 (List.length c7_o0) ∧ st.tm 13 = .lit (.int .i64 (List.length r5 : Int)) ∧ st.tm 14 = .lit (.int .i64 c7_14) ∧ K7 (f7 p7 c7_14 c7_o0)) := ⟨_, rfl⟩
  refine loopK mixed (by kernel_rfl) I7 (List.length r5) (by rw [hI7]; refine ⟨r5, 0, r5, rfl, Int.le_refl _, rfl, rfl, (show 11 ≤ 11 by omega), ?_, ?_, ?_, ?_, ?_, ?_, ?_, ?_, ?_, h⟩ <;> first | (simp only [ua, nm, seval] <;> rfl) | rfl) ?_
  rintro m ⟨tm, H, nx7, df⟩ hinv
  rw [hI7] at hinv
  obtain ⟨p7, c7_14, c7_o0, rfl, hi7, hp7, hdf, hn7, H9, H10, H11, e12, e13, e14, e15, e16, e17, h⟩ := hinv
  simp only at hdf hn7 H9 H10 H11 e12 e13 e14 e15 e16 e17
  have n18 := base_ne0 (m := 11) (b := nx7) (by omega)
  subst hdf hf7
  cases p7 with
  | nil =>
   have d19 : (decide (c7_14 < (List.length r5 : Int))) = false := not_lt_of_drop hi7 hp7
   simp only [g_sight_enlarged_l0, hs, reduceCtorEq] at h
   replace h := kG7 _ h
   try dsimp only at h
   try simp only [hs] at h
   simp only [vz, tyf, g8, n18, e12, e13, e14, e15, e16, e17, H9, H10, H11, d19, nm, seval]
   refine opd_ret (x := (.agg ([.lit (.int .i64 x0_b.At)] ++ [.ref 4 0 (List.length c7_o0) 4 (List.length c7_o0)]))) (by first | (simp only [Tryz.results89, resV, resL, resV1, tgt_ptr, tgt_tp, uw, cr, tyf, g8, n18, e12, e13, e14, e15, e16, e17, H9, H10, H11, d19, nm, seval] <;> rfl) | rfl) ?_
   obtain rfl := kF _ h
   refine rr_tree ?_ ?_
   ·simp only [tre, tytre, Bool.and_self]
   ·first | (simp only [outV, uw, showV_ref, cr, tyf, nrm, tynrm, g8, n18, e12, e13, e14, e15, e16, e17, H9, H10, H11, d19, nm, seval] <;> rfl) | rfl
  | cons e7 p7 =>
   have d20 : (decide (c7_14 < (List.length r5 : Int))) = true := lt_of_drop hi7 hp7
   have o22 := getI_of_drop hi7 hp7
   have w21 := wrap_next hi7 hp7 g8
   simp only [g_sight_enlarged_l0, hs, reduceCtorEq] at h
   cases o24 : (getI c7_o0 c7_14) with
   | none =>
    simp only [o24, hs, reduceCtorEq] at h
    exact absurd h kN7
   | some x23 =>
    simp only [o24, hs, reduceCtorEq] at h
    have w25 := setA (w := 4) (enc := cGSightLetter) (fun _ => rfl) o24
    have w26 := setB (w := 4) (enc := cGSightLetter) (GSightLetter.mk (IntKind.i64.wrap (x23.Height * x1_times)) (IntKind.i64.wrap (x23.Width * x1_times)) (IntKind.i64.wrap (x23.Stroke * x1_times)) (IntKind.i64.wrap (x23.Space * x1_times))) (fun _ => rfl) o24
    simp only [vz, tyf, nm, seval] at w26
    have w27 := setC (w := 4) (enc := cGSightLetter) c7_o0 (Int.toNat c7_14) (GSightLetter.mk (IntKind.i64.wrap (x23.Height * x1_times)) (IntKind.i64.wrap (x23.Width * x1_times)) (IntKind.i64.wrap (x23.Stroke * x1_times)) (IntKind.i64.wrap (x23.Space * x1_times))) (fun _ => rfl)
    simp only [vz, tyf, g8, n18, e12, e13, e14, e15, e16, e17, H9, H10, H11, d20, (ix40 o22), w21, (ixo40 o24), w25, w26, w27, nm, seval]
    exact ⟨List.length p7, Nat.lt_succ_self _, by rw [hI7]; refine ⟨p7, c7_14 + 1, (List.set c7_o0 (Int.toNat c7_14) (GSightLetter.mk (IntKind.i64.wrap (x23.Height * x1_times)) (IntKind.i64.wrap (x23.Width * x1_times)) (IntKind.i64.wrap (x23.Stroke * x1_times)) (IntKind.i64.wrap (x23.Space * x1_times)))), rfl, Int.le_trans hi7 (Int.le_add_one (Int.le_refl _)), drop_next hi7 hp7, rfl, (show 11 ≤ nx7 + 31 by omega), ?_, ?_, ?_, e12, e13, e14, ?_, e16, ?_, h⟩ <;> first | (simp only [ua, n18, e12, e13, e14, e15, e16, e17, H9, H10, H11, d20, w21, w25, w26, w27, nm, seval] <;> rfl) | rfl⟩
end Go.V
end
section
namespace Go.V
open Go Go.Proofs
def g_sight_Least (x0_s : GSightStreet) (x1_board : Int) (x2_from : GSightPlace) : Option (Int × Int) := Option.bind (g_sight_isView x0_s x1_board x2_from) (fun r1 => cond (r1) (Option.bind (getI x0_s.Boards x1_board) (fun x2 => Option.bind (g_sight_enlarged x2 1) (fun r3 => Option.bind (g_sight_isSurelyRead x0_s r3 x2_from) (fun r4 => cond (r4) (some (1, 0)) (Option.bind (g_sight_enlarged x2 2) (fun r5 => Option.bind (g_sight_isSurelyRead x0_s r5 x2_from) (fun r6 => cond (r6) (some (2, 0)) (Option.bind (g_sight_enlarged x2 3) (fun r7 => Option.bind (g_sight_isSurelyRead x0_s r7 x2_from) (fun r8 => cond (r8) (some (3, 0)) (Option.bind (g_sight_enlarged x2 4) (fun r9 => Option.bind (g_sight_isSurelyRead x0_s r9 x2_from) (fun r10 => cond (r10) (some (4, 0)) (Option.bind (g_sight_enlarged x2 5) (fun r11 => Option.bind (g_sight_isSurelyRead x0_s r11 x2_from) (fun r12 => cond (r12) (some (5, 0)) (Option.bind (g_sight_enlarged x2 6) (fun r13 => Option.bind (g_sight_isSurelyRead x0_s r13 x2_from) (fun r14 => cond (r14) (some (6, 0)) (Option.bind (g_sight_enlarged x2 7) (fun r15 => Option.bind (g_sight_isSurelyRead x0_s r15 x2_from) (fun r16 => cond (r16) (some (7, 0)) (Option.bind (g_sight_enlarged x2 8) (fun r17 => Option.bind (g_sight_isSurelyRead x0_s r17 x2_from) (fun r18 => cond (r18) (some (8, 0)) (Option.bind (g_sight_enlarged x2 9) (fun r19 => Option.bind (g_sight_isSurelyRead x0_s r19 x2_from) (fun r20 => cond (r20) (some (9, 0)) (some (0, 5)))))))))))))))))))))))))))))) (some (0, 2)))
theorem g_sight_Least_ok (x0_s : GSightStreet) (x1_board : Int) (x2_from : GSightPlace) (R : Int × Int) (h : g_sight_Least x0_s x1_board x2_from = some R) : VPure Tryz.prog G0 41 [.agg (cGSightStreet x0_s), .lit (.int .i64 x1_board), .agg (cGSightPlace x2_from)] (.tree (.tup [.lit (.int .i64 R.1), .lit (.int .i64 R.2)])) := by
 refine VPure.runR mixed Tryz.call41 Tryz.func41 rfl (by simp [Tryz.ntmps41]; kernel_rfl) ?_
 obtain ⟨KF, h, kF, kN⟩ := fun_intro h
 simp only [g_sight_Least] at h
 cases o22 : (g_sight_isView x0_s x1_board x2_from) with
 | none =>
  simp only [o22, hs, reduceCtorEq] at h
  exact absurd h kN
 | some r21 =>
  simp only [o22, hs, reduceCtorEq] at h
  simp only [vz, rkx, tyf, nm, seval]
  refine ktree (args0 := [.agg (cGSightStreet x0_s), .lit (.int .i64 x1_board), .agg (cGSightPlace x2_from)]) (by first | (simp only [nrm, tynrm] <;> rfl) | rfl) (by simp only [tre, tytre, Bool.and_self]) (g_sight_isView_ok _ _ _ _ o22) ?_
  refine fin_cut (fun tm => tm 1 = .lit (.int .i64 x1_board) ∧ tm 3 = .ptr 0 0 ∧ tm 5 = .ptr 1 0 ∧ tm 12 = .lit (.bool r21) ∧ True) (by refine ⟨?_, ?_, ?_, ?_, trivial⟩ <;> first | (simp only [ua, rkx, nm, seval] <;> rfl) | rfl) ?_
  rintro tm ⟨e23, e24, e25, e26, _⟩
  cases d27 : (r21)
  ·simp only [d27, hs, reduceCtorEq] at h
   simp only [vz, rkx, tyf, e23, e24, e25, e26, d27, nm, seval]
   refine opd_ret (x := (.tup [.lit (.int .i64 0), .lit (.int .i64 2)])) (by first | (simp only [Tryz.results41, resV, resL, resV1, tgt_ptr, tgt_tp, uw, cr, tyf, d27, nm, seval] <;> rfl) | rfl) ?_
   obtain rfl := kF _ h
   refine rr_tree ?_ ?_
   ·simp only [tre, tytre, Bool.and_self]
   ·first | (simp only [outV, uw, showV_ref, cr, tyf, nrm, tynrm, e23, e24, e25, e26, d27, nm, seval] <;> rfl) | rfl
  simp only [d27, hs, reduceCtorEq] at h
  simp only [vz, rkx, tyf, e23, e24, e25, e26, d27, nm, seval]
  refine cwp_rounds mixed (by kernel_rfl) 10 ?_
  simp only [vz, rkx, tyf, e23, e24, e25, e26, d27, nm, seval]
  refine cwp_drwQF (fun tm => tm 1 = .lit (.int .i64 x1_board) ∧ tm 3 = .ptr 0 0 ∧ tm 5 = .ptr 1 0 ∧ tm 8 = .lit (.int .i64 0) ∧ tm 14 = .lit (.int .i64 0) ∧ True) (by refine ⟨e23, e24, e25, ?_, ?_, trivial⟩ <;> first | (simp only [ua, rkx, e23, e24, e25, e26, d27, nm, seval] <;> rfl) | rfl) ?_
  rintro tm ⟨e28, e29, e30, e31, e32, _⟩
  cases o34 : (getI x0_s.Boards x1_board) with
  | none =>
   simp only [o34, hs, reduceCtorEq] at h
   exact absurd h kN
  | some x33 =>
   simp only [o34, hs, reduceCtorEq] at h
   cases o36 : (g_sight_enlarged x33 1) with
   | none =>
    simp only [o36, hs, reduceCtorEq] at h
    exact absurd h kN
   | some r35 =>
    simp only [o36, hs, reduceCtorEq] at h
    simp only [vz, rkx, tyf, d27, e28, e29, e30, e31, e32, (ix24 o34), nm, seval]
    refine dktree (args0 := [.agg (cGSightBoard x33), .lit (.int .i64 1)]) (by first | (simp only [nrm, tynrm] <;> rfl) | rfl) (by simp only [tre, tytre, Bool.and_self]) (g_sight_enlarged_ok _ _ _ o36) ?_
    refine fin_cut (fun tm => tm 1 = .lit (.int .i64 x1_board) ∧ tm 3 = .ptr 0 0 ∧ tm 5 = .ptr 1 0 ∧ tm 8 = .lit (.int .i64 0) ∧ tm 14 = .lit (.int .i64 0) ∧ tm 17 = .agg (cGSightStreet x0_s) ∧ tm 25 = .agg (cGSightBoard r35) ∧ True) (by refine ⟨e28, e29, e30, e31, e32, ?_, ?_, trivial⟩ <;> first | (simp only [ua, rkx, d27, e28, e29, e30, e31, e32, nm, seval] <;> rfl) | rfl) ?_
    rintro tm ⟨e37, e38, e39, e40, e41, e42, e43, _⟩
    cases o45 : (g_sight_isSurelyRead x0_s r35 x2_from) with
    | none =>
     simp only [o45, hs, reduceCtorEq] at h
     exact absurd h kN
    | some r44 =>
     simp only [o45, hs, reduceCtorEq] at h
     simp only [vz, rkx, tyf, d27, (ix24 o34), e37, e38, e39, e40, e41, e42, e43, nm, seval]
     refine dktree (args0 := [.agg (cGSightStreet x0_s), .agg (cGSightBoard r35), .agg (cGSightPlace x2_from)]) (by first | (simp only [nrm, tynrm] <;> rfl) | rfl) (by simp only [tre, tytre, Bool.and_self]) (g_sight_isSurelyRead_ok _ _ _ _ o45) ?_
     refine fin_cut (fun tm => tm 1 = .lit (.int .i64 x1_board) ∧ tm 3 = .ptr 0 0 ∧ tm 5 = .ptr 1 0 ∧ tm 8 = .lit (.int .i64 0) ∧ tm 14 = .lit (.int .i64 0) ∧ tm 27 = .lit (.bool r44) ∧ True) (by refine ⟨e37, e38, e39, e40, e41, ?_, trivial⟩ <;> first | (simp only [ua, rkx, d27, e37, e38, e39, e40, e41, e42, e43, nm, seval] <;> rfl) | rfl) ?_
     rintro tm ⟨e46, e47, e48, e49, e50, e51, _⟩
     cases d52 : (r44)
     ·simp only [d52, hs, reduceCtorEq] at h
      simp only [vz, rkx, tyf, d27, (ix24 o34), e46, e47, e48, e49, e50, e51, d52, nm, seval]
      refine cwp_drwQF (fun tm => tm 1 = .lit (.int .i64 x1_board) ∧ tm 3 = .ptr 0 0 ∧ tm 5 = .ptr 1 0 ∧ tm 8 = .lit (.int .i64 1) ∧ tm 14 = .lit (.int .i64 1) ∧ True) (by refine ⟨e46, e47, e48, ?_, ?_, trivial⟩ <;> first | (simp only [ua, rkx, d27, e46, e47, e48, e49, e50, e51, d52, nm, seval] <;> rfl) | rfl) ?_
      rintro tm ⟨e53, e54, e55, e56, e57, _⟩
      cases o59 : (g_sight_enlarged x33 2) with
      | none =>
       simp only [o59, hs, reduceCtorEq] at h
       exact absurd h kN
      | some r58 =>
       simp only [o59, hs, reduceCtorEq] at h
       simp only [vz, rkx, tyf, d27, (ix24 o34), d52, e53, e54, e55, e56, e57, nm, seval]
       refine dktree (args0 := [.agg (cGSightBoard x33), .lit (.int .i64 2)]) (by first | (simp only [nrm, tynrm] <;> rfl) | rfl) (by simp only [tre, tytre, Bool.and_self]) (g_sight_enlarged_ok _ _ _ o59) ?_
       refine fin_cut (fun tm => tm 1 = .lit (.int .i64 x1_board) ∧ tm 3 = .ptr 0 0 ∧ tm 5 = .ptr 1 0 ∧ tm 8 = .lit (.int .i64 1) ∧ tm 14 = .lit (.int .i64 1) ∧ tm 17 = .agg (cGSightStreet x0_s) ∧ tm 25 = .agg (cGSightBoard r58) ∧ True) (by refine ⟨e53, e54, e55, e56, e57, ?_, ?_, trivial⟩ <;> first | (simp only [ua, rkx, d27, d52, e53, e54, e55, e56, e57, nm, seval] <;> rfl) | rfl) ?_
       rintro tm ⟨e60, e61, e62, e63, e64, e65, e66, _⟩
       cases o68 : (g_sight_isSurelyRead x0_s r58 x2_from) with
       | none =>
        simp only [o68, hs, reduceCtorEq] at h
        exact absurd h kN
       | some r67 =>
        simp only [o68, hs, reduceCtorEq] at h
        simp only [vz, rkx, tyf, d27, (ix24 o34), d52, e60, e61, e62, e63, e64, e65, e66, nm, seval]
        refine dktree (args0 := [.agg (cGSightStreet x0_s), .agg (cGSightBoard r58), .agg (cGSightPlace x2_from)]) (by first | (simp only [nrm, tynrm] <;> rfl) | rfl) (by simp only [tre, tytre, Bool.and_self]) (g_sight_isSurelyRead_ok _ _ _ _ o68) ?_
        refine fin_cut (fun tm => tm 1 = .lit (.int .i64 x1_board) ∧ tm 3 = .ptr 0 0 ∧ tm 5 = .ptr 1 0 ∧ tm 8 = .lit (.int .i64 1) ∧ tm 14 = .lit (.int .i64 1) ∧ tm 27 = .lit (.bool r67) ∧ True) (by refine ⟨e60, e61, e62, e63, e64, ?_, trivial⟩ <;> first | (simp only [ua, rkx, d27, d52, e60, e61, e62, e63, e64, e65, e66, nm, seval] <;> rfl) | rfl) ?_
        rintro tm ⟨e69, e70, e71, e72, e73, e74, _⟩
        cases d75 : (r67)
        ·simp only [d75, hs, reduceCtorEq] at h
         simp only [vz, rkx, tyf, d27, (ix24 o34), d52, e69, e70, e71, e72, e73, e74, d75, nm, seval]
         refine cwp_drwQF (fun tm => tm 1 = .lit (.int .i64 x1_board) ∧ tm 3 = .ptr 0 0 ∧ tm 5 = .ptr 1 0 ∧ tm 8 = .lit (.int .i64 2) ∧ tm 14 = .lit (.int .i64 2) ∧ True) (by refine ⟨e69, e70, e71, ?_, ?_, trivial⟩ <;> first | (simp only [ua, rkx, d27, d52, e69, e70, e71, e72, e73, e74, d75, nm, seval] <;> rfl) | rfl) ?_
         rintro tm ⟨e76, e77, e78, e79, e80, _⟩
         cases o82 : (g_sight_enlarged x33 3) with
         | none =>
          simp only [o82, hs, reduceCtorEq] at h
          exact absurd h kN
         | some r81 =>
          simp only [o82, hs, reduceCtorEq] at h
          simp only [vz, rkx, tyf, d27, (ix24 o34), d52, d75, e76, e77, e78, e79, e80, nm, seval]
          refine dktree (args0 := [.agg (cGSightBoard x33), .lit (.int .i64 3)]) (by first | (simp only [nrm, tynrm] <;> rfl) | rfl) (by simp only [tre, tytre, Bool.and_self]) (g_sight_enlarged_ok _ _ _ o82) ?_
          refine fin_cut (fun tm => tm 1 = .lit (.int .i64 x1_board) ∧ tm 3 = .ptr 0 0 ∧ tm 5 = .ptr 1 0 ∧ tm 8 = .lit (.int .i64 2) ∧ tm 14 = .lit (.int .i64 2) ∧ tm 17 = .agg (cGSightStreet x0_s) ∧ tm 25 = .agg (cGSightBoard r81) ∧ True) (by refine ⟨e76, e77, e78, e79, e80, ?_, ?_, trivial⟩ <;> first | (simp only [ua, rkx, d27, d52, d75, e76, e77, e78, e79, e80, nm, seval] <;> rfl) | rfl) ?_
          rintro tm ⟨e83, e84, e85, e86, e87, e88, e89, _⟩
          cases o91 : (g_sight_isSurelyRead x0_s r81 x2_from) with
          | none =>
           simp only [o91, hs, reduceCtorEq] at h
           exact absurd h kN
          | some r90 =>
           simp only [o91, hs, reduceCtorEq] at h
           simp only [vz, rkx, tyf, d27, (ix24 o34), d52, d75, e83, e84, e85, e86, e87, e88, e89, nm, seval]
           refine dktree (args0 := [.agg (cGSightStreet x0_s), .agg (cGSightBoard r81), .agg (cGSightPlace x2_from)]) (by first | (simp only [nrm, tynrm] <;> rfl) | rfl) (by simp only [tre, tytre, Bool.and_self]) (g_sight_isSurelyRead_ok _ _ _ _ o91) ?_
           refine fin_cut (fun tm => tm 1 = .lit (.int .i64 x1_board) ∧ tm 3 = .ptr 0 0 ∧ tm 5 = .ptr 1 0 ∧ tm 8 = .lit (.int .i64 2) ∧ tm 14 = .lit (.int .i64 2) ∧ tm 27 = .lit (.bool r90) ∧ True) (by refine ⟨e83, e84, e85, e86, e87, ?_, trivial⟩ <;> first | (simp only [ua, rkx, d27, d52, d75, e83, e84, e85, e86, e87, e88, e89, nm, seval] <;> rfl) | rfl) ?_
           rintro tm ⟨e92, e93, e94, e95, e96, e97, _⟩
           cases d98 : (r90)
           ·simp only [d98, hs, reduceCtorEq] at h
            simp only [vz, rkx, tyf, d27, (ix24 o34), d52, d75, e92, e93, e94, e95, e96, e97, d98, nm, seval]
            refine cwp_drwQF (fun tm => tm 1 = .lit (.int .i64 x1_board) ∧ tm 3 = .ptr 0 0 ∧ tm 5 = .ptr 1 0 ∧ tm 8 = .lit (.int .i64 3) ∧ tm 14 = .lit (.int .i64 3) ∧ True) (by refine ⟨e92, e93, e94, ?_, ?_, trivial⟩ <;> first | (simp only [ua, rkx, d27, d52, d75, e92, e93, e94, e95, e96, e97, d98, nm, seval] <;> rfl) | rfl) ?_
            rintro tm ⟨e99, e100, e101, e102, e103, _⟩
            cases o105 : (g_sight_enlarged x33 4) with
            | none =>
             simp only [o105, hs, reduceCtorEq] at h
             exact absurd h kN
            | some r104 =>
             simp only [o105, hs, reduceCtorEq] at h
             simp only [vz, rkx, tyf, d27, (ix24 o34), d52, d75, d98, e99, e100, e101, e102, e103, nm, seval]
             refine dktree (args0 := [.agg (cGSightBoard x33), .lit (.int .i64 4)]) (by first | (simp only [nrm, tynrm] <;> rfl) | rfl) (by simp only [tre, tytre, Bool.and_self]) (g_sight_enlarged_ok _ _ _ o105) ?_
             refine fin_cut (fun tm => tm 1 = .lit (.int .i64 x1_board) ∧ tm 3 = .ptr 0 0 ∧ tm 5 = .ptr 1 0 ∧ tm 8 = .lit (.int .i64 3) ∧ tm 14 = .lit (.int .i64 3) ∧ tm 17 = .agg (cGSightStreet x0_s) ∧ tm 25 = .agg (cGSightBoard r104) ∧ True) (by refine ⟨e99, e100, e101, e102, e103, ?_, ?_, trivial⟩ <;> first | (simp only [ua, rkx, d27, d52, d75, d98, e99, e100, e101, e102, e103, nm, seval] <;> rfl) | rfl) ?_
             rintro tm ⟨e106, e107, e108, e109, e110, e111, e112, _⟩
             cases o114 : (g_sight_isSurelyRead x0_s r104 x2_from) with
             | none =>
              simp only [o114, hs, reduceCtorEq] at h
              exact absurd h kN
             | some r113 =>
              simp only [o114, hs, reduceCtorEq] at h
              simp only [vz, rkx, tyf, d27, (ix24 o34), d52, d75, d98, e106, e107, e108, e109, e110, e111, e112, nm, seval]
              refine dktree (args0 := [.agg (cGSightStreet x0_s), .agg (cGSightBoard r104), .agg (cGSightPlace x2_from)]) (by first | (simp only [nrm, tynrm] <;> rfl) | rfl) (by simp only [tre, tytre, Bool.and_self]) (g_sight_isSurelyRead_ok _ _ _ _ o114) ?_
              refine fin_cut (fun tm => tm 1 = .lit (.int .i64 x1_board) ∧ tm 3 = .ptr 0 0 ∧ tm 5 = .ptr 1 0 ∧ tm 8 = .lit (.int .i64 3) ∧ tm 14 = .lit (.int .i64 3) ∧ tm 27 = .lit (.bool r113) ∧ True) (by refine ⟨e106, e107, e108, e109, e110, ?_, trivial⟩ <;> first | (simp only [ua, rkx, d27, d52, d75, d98, e106, e107, e108, e109, e110, e111, e112, nm, seval] <;> rfl) | rfl) ?_
              rintro tm ⟨e115, e116, e117, e118, e119, e120, _⟩
              cases d121 : (r113)
              ·simp only [d121, hs, reduceCtorEq] at h
               simp only [vz, rkx, tyf, d27, (ix24 o34), d52, d75, d98, e115, e116, e117, e118, e119, e120, d121, nm, seval]
               refine cwp_drwQF (fun tm => tm 1 = .lit (.int .i64 x1_board) ∧ tm 3 = .ptr 0 0 ∧ tm 5 = .ptr 1 0 ∧ tm 8 = .lit (.int .i64 4) ∧ tm 14 = .lit (.int .i64 4) ∧ True) (by refine ⟨e115, e116, e117, ?_, ?_, trivial⟩ <;> first | (simp only [ua, rkx, d27, d52, d75, d98, e115, e116, e117, e118, e119, e120, d121, nm, seval] <;> rfl) | rfl) ?_
               rintro tm ⟨e122, e123, e124, e125, e126, _⟩
               cases o128 : (g_sight_enlarged x33 5) with
               | none =>
                simp only [o128, hs, reduceCtorEq] at h
                exact absurd h kN
               | some r127 =>
                simp only [o128, hs, reduceCtorEq] at h
                simp only [vz, rkx, tyf, d27, (ix24 o34), d52, d75, d98, d121, e122, e123, e124, e125, e126, nm, seval]
                refine dktree (args0 := [.agg (cGSightBoard x33), .lit (.int .i64 5)]) (by first | (simp only [nrm, tynrm] <;> rfl) | rfl) (by simp only [tre, tytre, Bool.and_self]) (g_sight_enlarged_ok _ _ _ o128) ?_
                refine fin_cut (fun tm => tm 1 = .lit (.int .i64 x1_board) ∧ tm 3 = .ptr 0 0 ∧ tm 5 = .ptr 1 0 ∧ tm 8 = .lit (.int .i64 4) ∧ tm 14 = .lit (.int .i64 4) ∧ tm 17 = .agg (cGSightStreet x0_s) ∧ tm 25 = .agg (cGSightBoard r127) ∧ True) (by refine ⟨e122, e123, e124, e125, e126, ?_, ?_, trivial⟩ <;> first | (simp only [ua, rkx, d27, d52, d75, d98, d121, e122, e123, e124, e125, e126, nm, seval] <;> rfl) | rfl) ?_
                rintro tm ⟨e129, e130, e131, e132, e133, e134, e135, _⟩
                cases o137 : (g_sight_isSurelyRead x0_s r127 x2_from) with
                | none =>
                 simp only [o137, hs, reduceCtorEq] at h
                 exact absurd h kN
                | some r136 =>
                 simp only [o137, hs, reduceCtorEq] at h
                 simp only [vz, rkx, tyf, d27, (ix24 o34), d52, d75, d98, d121, e129, e130, e131, e132, e133, e134, e135, nm, seval]
                 refine dktree (args0 := [.agg (cGSightStreet x0_s), .agg (cGSightBoard r127), .agg (cGSightPlace x2_from)]) (by first | (simp only [nrm, tynrm] <;> rfl) | rfl) (by simp only [tre, tytre, Bool.and_self]) (g_sight_isSurelyRead_ok _ _ _ _ o137) ?_
                 refine fin_cut (fun tm => tm 1 = .lit (.int .i64 x1_board) ∧ tm 3 = .ptr 0 0 ∧ tm 5 = .ptr 1 0 ∧ tm 8 = .lit (.int .i64 4) ∧ tm 14 = .lit (.int .i64 4) ∧ tm 27 = .lit (.bool r136) ∧ True) (by refine ⟨e129, e130, e131, e132, e133, ?_, trivial⟩ <;> first | (simp only [ua, rkx, d27, d52, d75, d98, d121, e129, e130, e131, e132, e133, e134, e135, nm, seval] <;> rfl) | rfl) ?_
                 rintro tm ⟨e138, e139, e140, e141, e142, e143, _⟩
                 cases d144 : (r136)
                 ·simp only [d144, hs, reduceCtorEq] at h
                  simp only [vz, rkx, tyf, d27, (ix24 o34), d52, d75, d98, d121, e138, e139, e140, e141, e142, e143, d144, nm, seval]
                  refine cwp_drwQF (fun tm => tm 1 = .lit (.int .i64 x1_board) ∧ tm 3 = .ptr 0 0 ∧ tm 5 = .ptr 1 0 ∧ tm 8 = .lit (.int .i64 5) ∧ tm 14 = .lit (.int .i64 5) ∧ True) (by refine ⟨e138, e139, e140, ?_, ?_, trivial⟩ <;> first | (simp only [ua, rkx, d27, d52, d75, d98, d121, e138, e139, e140, e141, e142, e143, d144, nm, seval] <;> rfl) | rfl) ?_
                  rintro tm ⟨e145, e146, e147, e148, e149, _⟩
                  cases o151 : (g_sight_enlarged x33 6) with
                  | none =>
                   simp only [o151, hs, reduceCtorEq] at h
                   exact absurd h kN
                  | some r150 =>
                   simp only [o151, hs, reduceCtorEq] at h
                   simp only [vz, rkx, tyf, d27, (ix24 o34), d52, d75, d98, d121, d144, e145, e146, e147, e148, e149, nm, seval]
                   refine dktree (args0 := [.agg (cGSightBoard x33), .lit (.int .i64 6)]) (by first | (simp only [nrm, tynrm] <;> rfl) | rfl) (by simp only [tre, tytre, Bool.and_self]) (g_sight_enlarged_ok _ _ _ o151) ?_
                   refine fin_cut (fun tm => tm 1 = .lit (.int .i64 x1_board) ∧ tm 3 = .ptr 0 0 ∧ tm 5 = .ptr 1 0 ∧ tm 8 = .lit (.int .i64 5) ∧ tm 14 = .lit (.int .i64 5) ∧ tm 17 = .agg (cGSightStreet x0_s) ∧ tm 25 = .agg (cGSightBoard r150) ∧ True) (by refine ⟨e145, e146, e147, e148, e149, ?_, ?_, trivial⟩ <;> first | (simp only [ua, rkx, d27, d52, d75, d98, d121, d144, e145, e146, e147, e148, e149, nm, seval] <;> rfl) | rfl) ?_
                   rintro tm ⟨e152, e153, e154, e155, e156, e157, e158, _⟩
                   cases o160 : (g_sight_isSurelyRead x0_s r150 x2_from) with
                   | none =>
                    simp only [o160, hs, reduceCtorEq] at h
                    exact absurd h kN
                   | some r159 =>
                    simp only [o160, hs, reduceCtorEq] at h
                    simp only [vz, rkx, tyf, d27, (ix24 o34), d52, d75, d98, d121, d144, e152, e153, e154, e155, e156, e157, e158, nm, seval]
                    refine dktree (args0 := [.agg (cGSightStreet x0_s), .agg (cGSightBoard r150), .agg (cGSightPlace x2_from)]) (by first | (simp only [nrm, tynrm] <;> rfl) | rfl) (by simp only [tre, tytre, Bool.and_self]) (g_sight_isSurelyRead_ok _ _ _ _ o160) ?_
                    refine fin_cut (fun tm => tm 1 = .lit (.int .i64 x1_board) ∧ tm 3 = .ptr 0 0 ∧ tm 5 = .ptr 1 0 ∧ tm 8 = .lit (.int .i64 5) ∧ tm 14 = .lit (.int .i64 5) ∧ tm 27 = .lit (.bool r159) ∧ True) (by refine ⟨e152, e153, e154, e155, e156, ?_, trivial⟩ <;> first | (simp only [ua, rkx, d27, d52, d75, d98, d121, d144, e152, e153, e154, e155, e156, e157, e158, nm, seval] <;> rfl) | rfl) ?_
                    rintro tm ⟨e161, e162, e163, e164, e165, e166, _⟩
                    cases d167 : (r159)
                    ·simp only [d167, hs, reduceCtorEq] at h
                     have b168 := And.intro d27 (And.intro d52 (And.intro d75 (And.intro d98 (And.intro d121 (And.intro d144 d167)))))
                     simp only [vz, rkx, tyf, b168, (ix24 o34), e161, e162, e163, e164, e165, e166, nm, seval]
                     refine cwp_drwQF (fun tm => tm 1 = .lit (.int .i64 x1_board) ∧ tm 3 = .ptr 0 0 ∧ tm 5 = .ptr 1 0 ∧ tm 8 = .lit (.int .i64 6) ∧ tm 14 = .lit (.int .i64 6) ∧ True) (by refine ⟨e161, e162, e163, ?_, ?_, trivial⟩ <;> first | (simp only [ua, rkx, b168, e161, e162, e163, e164, e165, e166, nm, seval] <;> rfl) | rfl) ?_
                     rintro tm ⟨e169, e170, e171, e172, e173, _⟩
                     cases o175 : (g_sight_enlarged x33 7) with
                     | none =>
                      simp only [o175, hs, reduceCtorEq] at h
                      exact absurd h kN
                     | some r174 =>
                      simp only [o175, hs, reduceCtorEq] at h
                      simp only [vz, rkx, tyf, b168, (ix24 o34), e169, e170, e171, e172, e173, nm, seval]
                      refine dktree (args0 := [.agg (cGSightBoard x33), .lit (.int .i64 7)]) (by first | (simp only [nrm, tynrm] <;> rfl) | rfl) (by simp only [tre, tytre, Bool.and_self]) (g_sight_enlarged_ok _ _ _ o175) ?_
                      refine fin_cut (fun tm => tm 1 = .lit (.int .i64 x1_board) ∧ tm 3 = .ptr 0 0 ∧ tm 5 = .ptr 1 0 ∧ tm 8 = .lit (.int .i64 6) ∧ tm 14 = .lit (.int .i64 6) ∧ tm 17 = .agg (cGSightStreet x0_s) ∧ tm 25 = .agg (cGSightBoard r174) ∧ True) (by refine ⟨e169, e170, e171, e172, e173, ?_, ?_, trivial⟩ <;> first | (simp only [ua, rkx, b168, e169, e170, e171, e172, e173, nm, seval] <;> rfl) | rfl) ?_
                      rintro tm ⟨e176, e177, e178, e179, e180, e181, e182, _⟩
                      cases o184 : (g_sight_isSurelyRead x0_s r174 x2_from) with
                      | none =>
                       simp only [o184, hs, reduceCtorEq] at h
                       exact absurd h kN
                      | some r183 =>
                       simp only [o184, hs, reduceCtorEq] at h
                       simp only [vz, rkx, tyf, b168, (ix24 o34), e176, e177, e178, e179, e180, e181, e182, nm, seval]
                       refine dktree (args0 := [.agg (cGSightStreet x0_s), .agg (cGSightBoard r174), .agg (cGSightPlace x2_from)]) (by first | (simp only [nrm, tynrm] <;> rfl) | rfl) (by simp only [tre, tytre, Bool.and_self]) (g_sight_isSurelyRead_ok _ _ _ _ o184) ?_
                       refine fin_cut (fun tm => tm 1 = .lit (.int .i64 x1_board) ∧ tm 3 = .ptr 0 0 ∧ tm 5 = .ptr 1 0 ∧ tm 8 = .lit (.int .i64 6) ∧ tm 14 = .lit (.int .i64 6) ∧ tm 27 = .lit (.bool r183) ∧ True) (by refine ⟨e176, e177, e178, e179, e180, ?_, trivial⟩ <;> first | (simp only [ua, rkx, b168, e176, e177, e178, e179, e180, e181, e182, nm, seval] <;> rfl) | rfl) ?_
                       rintro tm ⟨e185, e186, e187, e188, e189, e190, _⟩
                       cases d191 : (r183)
                       ·simp only [d191, hs, reduceCtorEq] at h
                        simp only [vz, rkx, tyf, b168, (ix24 o34), e185, e186, e187, e188, e189, e190, d191, nm, seval]
                        refine cwp_drwQF (fun tm => tm 1 = .lit (.int .i64 x1_board) ∧ tm 3 = .ptr 0 0 ∧ tm 5 = .ptr 1 0 ∧ tm 8 = .lit (.int .i64 7) ∧ tm 14 = .lit (.int .i64 7) ∧ True) (by refine ⟨e185, e186, e187, ?_, ?_, trivial⟩ <;> first | (simp only [ua, rkx, b168, e185, e186, e187, e188, e189, e190, d191, nm, seval] <;> rfl) | rfl) ?_
                        rintro tm ⟨e192, e193, e194, e195, e196, _⟩
                        cases o198 : (g_sight_enlarged x33 8) with
                        | none =>
                         simp only [o198, hs, reduceCtorEq] at h
                         exact absurd h kN
                        | some r197 =>
                         simp only [o198, hs, reduceCtorEq] at h
                         simp only [vz, rkx, tyf, b168, (ix24 o34), d191, e192, e193, e194, e195, e196, nm, seval]
                         refine dktree (args0 := [.agg (cGSightBoard x33), .lit (.int .i64 8)]) (by first | (simp only [nrm, tynrm] <;> rfl) | rfl) (by simp only [tre, tytre, Bool.and_self]) (g_sight_enlarged_ok _ _ _ o198) ?_
                         refine fin_cut (fun tm => tm 1 = .lit (.int .i64 x1_board) ∧ tm 3 = .ptr 0 0 ∧ tm 5 = .ptr 1 0 ∧ tm 8 = .lit (.int .i64 7) ∧ tm 14 = .lit (.int .i64 7) ∧ tm 17 = .agg (cGSightStreet x0_s) ∧ tm 25 = .agg (cGSightBoard r197) ∧ True) (by refine ⟨e192, e193, e194, e195, e196, ?_, ?_, trivial⟩ <;> first | (simp only [ua, rkx, b168, d191, e192, e193, e194, e195, e196, nm, seval] <;> rfl) | rfl) ?_
                         rintro tm ⟨e199, e200, e201, e202, e203, e204, e205, _⟩
                         cases o207 : (g_sight_isSurelyRead x0_s r197 x2_from) with
                         | none =>
                          simp only [o207, hs, reduceCtorEq] at h
                          exact absurd h kN
                         | some r206 =>
                          simp only [o207, hs, reduceCtorEq] at h
                          simp only [vz, rkx, tyf, b168, (ix24 o34), d191, e199, e200, e201, e202, e203, e204, e205, nm, seval]
                          refine dktree (args0 := [.agg (cGSightStreet x0_s), .agg (cGSightBoard r197), .agg (cGSightPlace x2_from)]) (by first | (simp only [nrm, tynrm] <;> rfl) | rfl) (by simp only [tre, tytre, Bool.and_self]) (g_sight_isSurelyRead_ok _ _ _ _ o207) ?_
                          refine fin_cut (fun tm => tm 1 = .lit (.int .i64 x1_board) ∧ tm 3 = .ptr 0 0 ∧ tm 5 = .ptr 1 0 ∧ tm 8 = .lit (.int .i64 7) ∧ tm 14 = .lit (.int .i64 7) ∧ tm 27 = .lit (.bool r206) ∧ True) (by refine ⟨e199, e200, e201, e202, e203, ?_, trivial⟩ <;> first | (simp only [ua, rkx, b168, d191, e199, e200, e201, e202, e203, e204, e205, nm, seval] <;> rfl) | rfl) ?_
                          rintro tm ⟨e208, e209, e210, e211, e212, e213, _⟩
                          cases d214 : (r206)
                          ·simp only [d214, hs, reduceCtorEq] at h
                           simp only [vz, rkx, tyf, b168, (ix24 o34), d191, e208, e209, e210, e211, e212, e213, d214, nm, seval]
                           refine cwp_drwQF (fun tm => tm 1 = .lit (.int .i64 x1_board) ∧ tm 3 = .ptr 0 0 ∧ tm 5 = .ptr 1 0 ∧ tm 8 = .lit (.int .i64 8) ∧ tm 14 = .lit (.int .i64 8) ∧ True) (by refine ⟨e208, e209, e210, ?_, ?_, trivial⟩ <;> first | (simp only [ua, rkx, b168, d191, e208, e209, e210, e211, e212, e213, d214, nm, seval] <;> rfl) | rfl) ?_
                           rintro tm ⟨e215, e216, e217, e218, e219, _⟩
                           cases o221 : (g_sight_enlarged x33 9) with
                           | none =>
                            simp only [o221, hs, reduceCtorEq] at h
                            exact absurd h kN
                           | some r220 =>
                            simp only [o221, hs, reduceCtorEq] at h
                            simp only [vz, rkx, tyf, b168, (ix24 o34), d191, d214, e215, e216, e217, e218, e219, nm, seval]
                            refine dktree (args0 := [.agg (cGSightBoard x33), .lit (.int .i64 9)]) (by first | (simp only [nrm, tynrm] <;> rfl) | rfl) (by simp only [tre, tytre, Bool.and_self]) (g_sight_enlarged_ok _ _ _ o221) ?_
                            refine fin_cut (fun tm => tm 1 = .lit (.int .i64 x1_board) ∧ tm 3 = .ptr 0 0 ∧ tm 5 = .ptr 1 0 ∧ tm 8 = .lit (.int .i64 8) ∧ tm 14 = .lit (.int .i64 8) ∧ tm 17 = .agg (cGSightStreet x0_s) ∧ tm 25 = .agg (cGSightBoard r220) ∧ True) (by refine ⟨e215, e216, e217, e218, e219, ?_, ?_, trivial⟩ <;> first | (simp only [ua, rkx, b168, d191, d214, e215, e216, e217, e218, e219, nm, seval] <;> rfl) | rfl) ?_
                            rintro tm ⟨e222, e223, e224, e225, e226, e227, e228, _⟩
                            cases o230 : (g_sight_isSurelyRead x0_s r220 x2_from) with
                            | none =>
                             simp only [o230, hs, reduceCtorEq] at h
                             exact absurd h kN
                            | some r229 =>
                             simp only [o230, hs, reduceCtorEq] at h
                             simp only [vz, rkx, tyf, b168, (ix24 o34), d191, d214, e222, e223, e224, e225, e226, e227, e228, nm, seval]
                             refine dktree (args0 := [.agg (cGSightStreet x0_s), .agg (cGSightBoard r220), .agg (cGSightPlace x2_from)]) (by first | (simp only [nrm, tynrm] <;> rfl) | rfl) (by simp only [tre, tytre, Bool.and_self]) (g_sight_isSurelyRead_ok _ _ _ _ o230) ?_
                             refine fin_cut (fun tm => tm 1 = .lit (.int .i64 x1_board) ∧ tm 3 = .ptr 0 0 ∧ tm 5 = .ptr 1 0 ∧ tm 8 = .lit (.int .i64 8) ∧ tm 14 = .lit (.int .i64 8) ∧ tm 27 = .lit (.bool r229) ∧ True) (by refine ⟨e222, e223, e224, e225, e226, ?_, trivial⟩ <;> first | (simp only [ua, rkx, b168, d191, d214, e222, e223, e224, e225, e226, e227, e228, nm, seval] <;> rfl) | rfl) ?_
                             rintro tm ⟨e231, e232, e233, e234, e235, e236, _⟩
                             cases d237 : (r229)
                             ·simp only [d237, hs, reduceCtorEq] at h
                              simp only [vz, rkx, tyf, b168, (ix24 o34), d191, d214, e231, e232, e233, e234, e235, e236, d237, nm, seval]
                              refine opd_ret (x := (.tup [.lit (.int .i64 0), .lit (.int .i64 5)])) (by first | (simp only [Tryz.results41, resV, resL, resV1, tgt_ptr, tgt_tp, uw, cr, tyf, b168, (ix24 o34), d191, d214, d237, nm, seval] <;> rfl) | rfl) ?_
                              obtain rfl := kF _ h
                              refine rr_tree ?_ ?_
                              ·simp only [tre, tytre, Bool.and_self]
                              ·first | (simp only [outV, uw, showV_ref, cr, tyf, nrm, tynrm, b168, (ix24 o34), d191, d214, e231, e232, e233, e234, e235, e236, d237, nm, seval] <;> rfl) | rfl
                             simp only [d237, hs, reduceCtorEq] at h
                             simp only [vz, rkx, tyf, b168, (ix24 o34), d191, d214, e231, e232, e233, e234, e235, e236, d237, nm, seval]
                             refine opd_ret (x := (.tup [.lit (.int .i64 9), .lit (.int .i64 0)])) (by first | (simp only [Tryz.results41, resV, resL, resV1, tgt_ptr, tgt_tp, uw, cr, tyf, b168, (ix24 o34), d191, d214, d237, nm, seval] <;> rfl) | rfl) ?_
                             obtain rfl := kF _ h
                             refine rr_tree ?_ ?_
                             ·simp only [tre, tytre, Bool.and_self]
                             ·first | (simp only [outV, uw, showV_ref, cr, tyf, nrm, tynrm, b168, (ix24 o34), d191, d214, e231, e232, e233, e234, e235, e236, d237, nm, seval] <;> rfl) | rfl
                          simp only [d214, hs, reduceCtorEq] at h
                          simp only [vz, rkx, tyf, b168, (ix24 o34), d191, e208, e209, e210, e211, e212, e213, d214, nm, seval]
                          refine opd_ret (x := (.tup [.lit (.int .i64 8), .lit (.int .i64 0)])) (by first | (simp only [Tryz.results41, resV, resL, resV1, tgt_ptr, tgt_tp, uw, cr, tyf, b168, (ix24 o34), d191, d214, nm, seval] <;> rfl) | rfl) ?_
                          obtain rfl := kF _ h
                          refine rr_tree ?_ ?_
                          ·simp only [tre, tytre, Bool.and_self]
                          ·first | (simp only [outV, uw, showV_ref, cr, tyf, nrm, tynrm, b168, (ix24 o34), d191, e208, e209, e210, e211, e212, e213, d214, nm, seval] <;> rfl) | rfl
                       simp only [d191, hs, reduceCtorEq] at h
                       simp only [vz, rkx, tyf, b168, (ix24 o34), e185, e186, e187, e188, e189, e190, d191, nm, seval]
                       refine opd_ret (x := (.tup [.lit (.int .i64 7), .lit (.int .i64 0)])) (by first | (simp only [Tryz.results41, resV, resL, resV1, tgt_ptr, tgt_tp, uw, cr, tyf, b168, (ix24 o34), d191, nm, seval] <;> rfl) | rfl) ?_
                       obtain rfl := kF _ h
                       refine rr_tree ?_ ?_
                       ·simp only [tre, tytre, Bool.and_self]
                       ·first | (simp only [outV, uw, showV_ref, cr, tyf, nrm, tynrm, b168, (ix24 o34), e185, e186, e187, e188, e189, e190, d191, nm, seval] <;> rfl) | rfl
                    simp only [d167, hs, reduceCtorEq] at h
                    have b238 := And.intro d27 (And.intro d52 (And.intro d75 (And.intro d98 (And.intro d121 (And.intro d144 d167)))))
                    simp only [vz, rkx, tyf, b238, (ix24 o34), e161, e162, e163, e164, e165, e166, nm, seval]
                    refine opd_ret (x := (.tup [.lit (.int .i64 6), .lit (.int .i64 0)])) (by first | (simp only [Tryz.results41, resV, resL, resV1, tgt_ptr, tgt_tp, uw, cr, tyf, b238, (ix24 o34), nm, seval] <;> rfl) | rfl) ?_
                    obtain rfl := kF _ h
                    refine rr_tree ?_ ?_
                    ·simp only [tre, tytre, Bool.and_self]
                    ·first | (simp only [outV, uw, showV_ref, cr, tyf, nrm, tynrm, b238, (ix24 o34), e161, e162, e163, e164, e165, e166, nm, seval] <;> rfl) | rfl
                 simp only [d144, hs, reduceCtorEq] at h
                 simp only [vz, rkx, tyf, d27, (ix24 o34), d52, d75, d98, d121, e138, e139, e140, e141, e142, e143, d144, nm, seval]
                 refine opd_ret (x := (.tup [.lit (.int .i64 5), .lit (.int .i64 0)])) (by first | (simp only [Tryz.results41, resV, resL, resV1, tgt_ptr, tgt_tp, uw, cr, tyf, d27, (ix24 o34), d52, d75, d98, d121, d144, nm, seval] <;> rfl) | rfl) ?_
                 obtain rfl := kF _ h
                 refine rr_tree ?_ ?_
                 ·simp only [tre, tytre, Bool.and_self]
                 ·first | (simp only [outV, uw, showV_ref, cr, tyf, nrm, tynrm, d27, (ix24 o34), d52, d75, d98, d121, e138, e139, e140, e141, e142, e143, d144, nm, seval] <;> rfl) | rfl
              simp only [d121, hs, reduceCtorEq] at h
              simp only [vz, rkx, tyf, d27, (ix24 o34), d52, d75, d98, e115, e116, e117, e118, e119, e120, d121, nm, seval]
              refine opd_ret (x := (.tup [.lit (.int .i64 4), .lit (.int .i64 0)])) (by first | (simp only [Tryz.results41, resV, resL, resV1, tgt_ptr, tgt_tp, uw, cr, tyf, d27, (ix24 o34), d52, d75, d98, d121, nm, seval] <;> rfl) | rfl) ?_
              obtain rfl := kF _ h
              refine rr_tree ?_ ?_
              ·simp only [tre, tytre, Bool.and_self]
              ·first | (simp only [outV, uw, showV_ref, cr, tyf, nrm, tynrm, d27, (ix24 o34), d52, d75, d98, e115, e116, e117, e118, e119, e120, d121, nm, seval] <;> rfl) | rfl
           simp only [d98, hs, reduceCtorEq] at h
           simp only [vz, rkx, tyf, d27, (ix24 o34), d52, d75, e92, e93, e94, e95, e96, e97, d98, nm, seval]
           refine opd_ret (x := (.tup [.lit (.int .i64 3), .lit (.int .i64 0)])) (by first | (simp only [Tryz.results41, resV, resL, resV1, tgt_ptr, tgt_tp, uw, cr, tyf, d27, (ix24 o34), d52, d75, d98, nm, seval] <;> rfl) | rfl) ?_
           obtain rfl := kF _ h
           refine rr_tree ?_ ?_
           ·simp only [tre, tytre, Bool.and_self]
           ·first | (simp only [outV, uw, showV_ref, cr, tyf, nrm, tynrm, d27, (ix24 o34), d52, d75, e92, e93, e94, e95, e96, e97, d98, nm, seval] <;> rfl) | rfl
        simp only [d75, hs, reduceCtorEq] at h
        simp only [vz, rkx, tyf, d27, (ix24 o34), d52, e69, e70, e71, e72, e73, e74, d75, nm, seval]
        refine opd_ret (x := (.tup [.lit (.int .i64 2), .lit (.int .i64 0)])) (by first | (simp only [Tryz.results41, resV, resL, resV1, tgt_ptr, tgt_tp, uw, cr, tyf, d27, (ix24 o34), d52, d75, nm, seval] <;> rfl) | rfl) ?_
        obtain rfl := kF _ h
        refine rr_tree ?_ ?_
        ·simp only [tre, tytre, Bool.and_self]
        ·first | (simp only [outV, uw, showV_ref, cr, tyf, nrm, tynrm, d27, (ix24 o34), d52, e69, e70, e71, e72, e73, e74, d75, nm, seval] <;> rfl) | rfl
     simp only [d52, hs, reduceCtorEq] at h
     simp only [vz, rkx, tyf, d27, (ix24 o34), e46, e47, e48, e49, e50, e51, d52, nm, seval]
     refine opd_ret (x := (.tup [.lit (.int .i64 1), .lit (.int .i64 0)])) (by first | (simp only [Tryz.results41, resV, resL, resV1, tgt_ptr, tgt_tp, uw, cr, tyf, d27, (ix24 o34), d52, nm, seval] <;> rfl) | rfl) ?_
     obtain rfl := kF _ h
     refine rr_tree ?_ ?_
     ·simp only [tre, tytre, Bool.and_self]
     ·first | (simp only [outV, uw, showV_ref, cr, tyf, nrm, tynrm, d27, (ix24 o34), e46, e47, e48, e49, e50, e51, d52, nm, seval] <;> rfl) | rfl
end Go.V
end
section
namespace Go.V
open Go Go.Proofs
def g_sight_Light_l0 (x0_s : GSightStreet) (x1_board : Int) (x2_from : GSightPlace) : Nat → Int → Int → Int → Option (LOut (Int × Int) (Int × Int))
 | 0, c0_14, c0_o0, c0_o1 => some (.go (c0_o0, c0_o1))
 | k0 + 1, c0_14, c0_o0, c0_o1 => Option.bind (getI x0_s.Boards x1_board) (fun x4 => Option.bind (g_sight_isSurelyRead (GSightStreet.mk x0_s.Length x0_s.Width x0_s.Eye (GSpan.mk (c0_14 + 1) (c0_14 + 1)) x0_s.Boards x0_s.Blocks) x4 x2_from) (fun r5 => cond (r5) (some (.ret (c0_14 + 1, 0))) (g_sight_Light_l0 x0_s x1_board x2_from k0 (c0_14 + 1) (c0_14 + 1) (c0_14 + 1))))
def g_sight_Light (x0_s : GSightStreet) (x1_board : Int) (x2_from : GSightPlace) : Option (Int × Int) := Option.bind (g_sight_isView x0_s x1_board x2_from) (fun r1 => cond (r1) (cond (boundOk 100) (lbind (g_sight_Light_l0 x0_s x1_board x2_from (Int.toNat (100 - 0)) 0 x0_s.Light.Low x0_s.Light.High) (fun r7 => some r7) (fun c6 => some (0, 5)) (fun _ _ => none)) none) (some (0, 2)))
theorem g_sight_Light_ok (x0_s : GSightStreet) (x1_board : Int) (x2_from : GSightPlace) (R : Int × Int) (h : g_sight_Light x0_s x1_board x2_from = some R) : VPure Tryz.prog G0 42 [.agg (cGSightStreet x0_s), .lit (.int .i64 x1_board), .agg (cGSightPlace x2_from)] (.tree (.tup [.lit (.int .i64 R.1), .lit (.int .i64 R.2)])) := by
 refine VPure.runR mixed Tryz.call42 Tryz.func42 rfl (by simp [Tryz.ntmps42]; kernel_rfl) ?_
 obtain ⟨KF, h, kF, kN⟩ := fun_intro h
 simp only [g_sight_Light] at h
 cases o9 : (g_sight_isView x0_s x1_board x2_from) with
 | none =>
  simp only [o9, hs, reduceCtorEq] at h
  exact absurd h kN
 | some r8 =>
  simp only [o9, hs, reduceCtorEq] at h
  simp only [vz, tyf, nm, seval]
  refine ktree (args0 := [.agg (cGSightStreet x0_s), .lit (.int .i64 x1_board), .agg (cGSightPlace x2_from)]) (by first | (simp only [nrm, tynrm] <;> rfl) | rfl) (by simp only [tre, tytre, Bool.and_self]) (g_sight_isView_ok _ _ _ _ o9) ?_
  refine fin_cut (fun tm => tm 1 = .lit (.int .i64 x1_board) ∧ tm 3 = .ptr 0 0 ∧ tm 5 = .ptr 1 0 ∧ tm 12 = .lit (.bool r8) ∧ True) (by refine ⟨?_, ?_, ?_, ?_, trivial⟩ <;> first | (simp only [ua, nm, seval] <;> rfl) | rfl) ?_
  rintro tm ⟨e10, e11, e12, e13, _⟩
  cases d14 : (r8)
  ·simp only [d14, hs, reduceCtorEq] at h
   simp only [vz, tyf, e10, e11, e12, e13, d14, nm, seval]
   refine opd_ret (x := (.tup [.lit (.int .i64 0), .lit (.int .i64 2)])) (by first | (simp only [Tryz.results42, resV, resL, resV1, tgt_ptr, tgt_tp, uw, cr, tyf, d14, nm, seval] <;> rfl) | rfl) ?_
   obtain rfl := kF _ h
   refine rr_tree ?_ ?_
   ·simp only [tre, tytre, Bool.and_self]
   ·first | (simp only [outV, uw, showV_ref, cr, tyf, nrm, tynrm, e10, e11, e12, e13, d14, nm, seval] <;> rfl) | rfl
  simp only [d14, hs, reduceCtorEq] at h
  cases g16 : (boundOk 100)
  ·simp only [g16, hs, reduceCtorEq] at h
   exact absurd h kN
  simp only [g16, hs, reduceCtorEq] at h
  simp only [vz, tyf, e10, e11, e12, e13, d14, g16, nm, seval]
  obtain ⟨K15, h, kR15, kG15, kB15, kN15⟩ := lbind_intro h kN
  obtain ⟨f15, hf15, h⟩ := call4 h
  obtain ⟨I15, hI15⟩ : ∃ I : Nat → St → Prop, I = (fun m st => ∃ (p15 : Nat) (c15_14 : Int) (c15_o0 : Int) (c15_o1 : Int), p15 = m ∧ loOk c15_14 = true ∧ Int.toNat (100 - c15_14) = p15 ∧ st.df = [] ∧ 10 ≤ st.nx ∧ st.H 0 = some (.cells (some 27) ([.lit (.int .i64 x0_s.Length)] ++ [.lit (.int .i64 x0_s.Width)] ++ (cGSpan x0_s.Eye) ++ [.lit (.int .i64 c15_o0)] ++ [.lit (.int .i64 c15_o1)] ++ [.sl (cellsL cGSightBoard x0_s.Boards) (List.length x0_s.Boards) false] ++ [.sl (cellsL cGSightBlock x0_s.Blocks) (List.length x0_s.Blocks) false])) ∧ st.H 1 = some (.cells (some 29) (cGSightPlace x2_from)) ∧ st.tm 1 = .lit (.int .i64 x1_board) ∧ st.tm 3 = .ptr 0 0 ∧ st.tm 5 = .ptr 1 0 ∧ st.tm 14 = .lit (.int .i64 c15_14) ∧ K15 (f15 p15 c15_14 c15_o0 c15_o1)) := ⟨_, rfl⟩
  refine loopK mixed (by kernel_rfl) I15 (Int.toNat (100 - 0)) (by rw [hI15]; refine ⟨Int.toNat (100 - 0), 0, x0_s.Light.Low, x0_s.Light.High, rfl, (by rfl), rfl, rfl, (show 10 ≤ 10 by omega), ?_, ?_, e10, e11, e12, ?_, h⟩ <;> first | (simp only [ua, e10, e11, e12, e13, d14, nm, seval] <;> rfl) | rfl) ?_
  rintro m ⟨tm, H, nx15, df⟩ hinv
  rw [hI15] at hinv
  obtain ⟨p15, c15_14, c15_o0, c15_o1, rfl, hi15, hp15, hdf, hn15, H17, H18, e19, e20, e21, e22, h⟩ := hinv
  simp only at hdf hn15 H17 H18 e19 e20 e21 e22
  have n23 := base_ne0 (m := 10) (b := nx15) (by omega)
  subst hdf hf15
  cases p15 with
  | zero =>
   have d24 : (decide (c15_14 < 100)) = false := cnt_not_lt hp15
   simp only [g_sight_Light_l0, hs, reduceCtorEq] at h
   replace h := kG15 _ h
   try dsimp only at h
   try simp only [hs] at h
   simp only [vz, tyf, d14, g16, n23, e19, e20, e21, e22, H17, H18, d24, nm, seval]
   refine opd_ret (x := (.tup [.lit (.int .i64 0), .lit (.int .i64 5)])) (by first | (simp only [Tryz.results42, resV, resL, resV1, tgt_ptr, tgt_tp, uw, cr, tyf, d14, g16, n23, H17, H18, d24, nm, seval] <;> rfl) | rfl) ?_
   obtain rfl := kF _ h
   refine rr_tree ?_ ?_
   ·simp only [tre, tytre, Bool.and_self]
   ·first | (simp only [outV, uw, showV_ref, cr, tyf, nrm, tynrm, d14, g16, n23, e19, e20, e21, e22, H17, H18, d24, nm, seval] <;> rfl) | rfl
  | succ p15 =>
   have d25 : (decide (c15_14 < 100)) = true := cnt_lt hp15
   have w26 := cnt_wrap hi15 hp15 g16
   simp only [g_sight_Light_l0, hs, reduceCtorEq] at h
   simp only [vz, tyf, d14, g16, n23, e19, e20, e21, e22, H17, H18, d25, w26, nm, seval]
   refine cwp_drwQF (fun tm => tm 1 = .lit (.int .i64 x1_board) ∧ tm 3 = .ptr 0 0 ∧ tm 5 = .ptr 1 0 ∧ tm 8 = .lit (.int .i64 c15_14) ∧ tm 14 = .lit (.int .i64 c15_14) ∧ True) (by refine ⟨e19, e20, e21, ?_, e22, trivial⟩ <;> first | (simp only [ua, d14, n23, e19, e20, e21, e22, H17, H18, d25, w26, nm, seval] <;> rfl) | rfl) ?_
   rintro tm ⟨e27, e28, e29, e30, e31, _⟩
   cases o33 : (getI x0_s.Boards x1_board) with
   | none =>
    simp only [o33, hs, reduceCtorEq] at h
    exact absurd h kN15
   | some x32 =>
    simp only [o33, hs, reduceCtorEq] at h
    cases o35 : (g_sight_isSurelyRead (GSightStreet.mk x0_s.Length x0_s.Width x0_s.Eye (GSpan.mk (c15_14 + 1) (c15_14 + 1)) x0_s.Boards x0_s.Blocks) x32 x2_from) with
    | none =>
     simp only [o35, hs, reduceCtorEq] at h
     exact absurd h kN15
    | some r34 =>
     simp only [o35, hs, reduceCtorEq] at h
     simp only [vz, tyf, d14, g16, n23, H17, H18, d25, w26, e27, e28, e29, e30, e31, (ix24 o33), nm, seval]
     refine dktree (args0 := [.agg (cGSightStreet (GSightStreet.mk x0_s.Length x0_s.Width x0_s.Eye (GSpan.mk (c15_14 + 1) (c15_14 + 1)) x0_s.Boards x0_s.Blocks)), .agg (cGSightBoard x32), .agg (cGSightPlace x2_from)]) (by first | (simp only [nrm, tynrm] <;> rfl) | rfl) (by simp only [tre, tytre, Bool.and_self]) (g_sight_isSurelyRead_ok _ _ _ _ o35) ?_
     refine fin_cut (fun tm => tm 1 = .lit (.int .i64 x1_board) ∧ tm 3 = .ptr 0 0 ∧ tm 5 = .ptr 1 0 ∧ tm 8 = .lit (.int .i64 c15_14) ∧ tm 14 = .lit (.int .i64 c15_14) ∧ tm 30 = .lit (.bool r34) ∧ True) (by refine ⟨e27, e28, e29, e30, e31, ?_, trivial⟩ <;> first | (simp only [ua, d14, n23, H17, H18, d25, w26, e27, e28, e29, e30, e31, nm, seval] <;> rfl) | rfl) ?_
     rintro tm ⟨e36, e37, e38, e39, e40, e41, _⟩
     cases d42 : (r34)
     ·simp only [d42, hs, reduceCtorEq] at h
      simp only [vz, tyf, d14, g16, n23, H17, H18, d25, w26, (ix24 o33), e36, e37, e38, e39, e40, e41, d42, nm, seval]
      exact ⟨p15, Nat.lt_succ_self _, by rw [hI15]; refine ⟨p15, c15_14 + 1, c15_14 + 1, c15_14 + 1, rfl, cnt_lo hi15, cnt_next hp15, rfl, (show 10 ≤ nx15 + 20 by omega), ?_, ?_, e36, e37, e38, ?_, h⟩ <;> first | (simp only [ua, d14, n23, H17, H18, d25, w26, e36, e37, e38, e39, e40, e41, d42, nm, seval] <;> rfl) | rfl⟩
     simp only [d42, hs, reduceCtorEq] at h
     simp only [vz, tyf, d14, g16, n23, H17, H18, d25, w26, (ix24 o33), e36, e37, e38, e39, e40, e41, d42, nm, seval]
     refine opd_ret (x := (.tup [.lit (.int .i64 (c15_14 + 1)), .lit (.int .i64 0)])) (by first | (simp only [Tryz.results42, resV, resL, resV1, tgt_ptr, tgt_tp, uw, cr, tyf, d14, g16, n23, H17, H18, d25, w26, (ix24 o33), d42, nm, seval] <;> rfl) | rfl) ?_
     replace h := kR15 _ h
     try dsimp only at h
     obtain rfl := kF _ h
     refine rr_tree ?_ ?_
     ·simp only [tre, tytre, Bool.and_self]
     ·first | (simp only [outV, uw, showV_ref, cr, tyf, nrm, tynrm, d14, g16, n23, H17, H18, d25, w26, (ix24 o33), e36, e37, e38, e39, e40, e41, d42, nm, seval] <;> rfl) | rfl
end Go.V
end
