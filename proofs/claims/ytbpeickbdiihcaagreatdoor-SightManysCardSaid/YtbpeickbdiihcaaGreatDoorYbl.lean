/- Part of a proof: a logic of values by content, lifted functions, what follows. -/
import Derived.Test.YtbpeickbdiihcaaGreatDoorYbf
import Derived.Test.YtbpeickbdiihcaaGreatDoorYbi
import Derived.Test.YtbpeickbdiihcaaGreatDoorYbj
import Derived.Test.YtbpeickbdiihcaaGreatDoorYbk
set_option linter.all false
set_option maxRecDepth 4000
set_option maxHeartbeats 4000000
section
namespace Go.V
open Go Go.Proofs
def g_sight_view_firstFault_l4 (x0_v : Gsightview) : Nat → Int → Option (LOut (GSightFault × Bool) (Unit))
 | 0, c4_54 => some (.go ())
 | k4 + 1, c4_54 => Option.bind (g_sight_view_isApart x0_v c4_54) (fun r21 => Option.bind (g_sight_must r21 5 c4_54) (fun r22 => sumB r22 (fun u23 => g_sight_view_firstFault_l4 x0_v k4 (c4_54 + 1)) (fun w24 => some (.ret (w24.SightFault, true)))))
def g_sight_view_firstFault_l3 (x0_v : Gsightview) : List GSightLetter → Int → Option (LOut (GSightFault × Bool) (Unit))
 | [], c3_36 => some (.go ())
 | e3 :: p3, c3_36 => Option.bind (g_sight_view_isThick x0_v c3_36) (fun r16 => Option.bind (g_sight_must r16 4 c3_36) (fun r17 => sumB r17 (fun u18 => g_sight_view_firstFault_l3 x0_v p3 (c3_36 + 1)) (fun w19 => some (.ret (w19.SightFault, true)))))
def g_sight_view_firstFault_l2 (x0_v : Gsightview) : List GSightLetter → Int → Option (LOut (GSightFault × Bool) (Unit))
 | [], c2_36 => some (.go ())
 | e2 :: p2, c2_36 => Option.bind (g_sight_view_isBroad x0_v c2_36) (fun r11 => Option.bind (g_sight_must r11 3 c2_36) (fun r12 => sumB r12 (fun u13 => g_sight_view_firstFault_l2 x0_v p2 (c2_36 + 1)) (fun w14 => some (.ret (w14.SightFault, true)))))
def g_sight_view_firstFault_l1 (x0_v : Gsightview) : List GSightLetter → Int → Option (LOut (GSightFault × Bool) (Unit))
 | [], c1_36 => some (.go ())
 | e1 :: p1, c1_36 => Option.bind (g_sight_view_isTall x0_v c1_36) (fun r6 => Option.bind (g_sight_must r6 2 c1_36) (fun r7 => sumB r7 (fun u8 => g_sight_view_firstFault_l1 x0_v p1 (c1_36 + 1)) (fun w9 => some (.ret (w9.SightFault, true)))))
def g_sight_view_firstFault_l0 (x0_v : Gsightview) : List GSightBlock → Int → Option (LOut (GSightFault × Bool) (Unit))
 | [], c0_15 => some (.go ())
 | e0 :: p0, c0_15 => Option.bind (g_sight_view_isBehind x0_v e0) (fun r1 => Option.bind (g_sight_must (!r1) 1 c0_15) (fun r2 => sumB r2 (fun u3 => g_sight_view_firstFault_l0 x0_v p0 (c0_15 + 1)) (fun w4 => some (.ret (w4.SightFault, true)))))
def g_sight_view_firstFault (x0_v : Gsightview) : Option (GSightFault × Bool) := cond (lenOk x0_v.SightStreet.Blocks) (lbind (g_sight_view_firstFault_l0 x0_v x0_v.SightStreet.Blocks 0) (fun r30 => some r30) (fun c5 => cond (lenOk x0_v.board.Letters) (lbind (g_sight_view_firstFault_l1 x0_v x0_v.board.Letters 0) (fun r29 => some r29) (fun c10 => lbind (g_sight_view_firstFault_l2 x0_v x0_v.board.Letters 0) (fun r28 => some r28) (fun c15 => lbind (g_sight_view_firstFault_l3 x0_v x0_v.board.Letters 0) (fun r27 => some r27) (fun c20 => cond (boundOk (IntKind.i64.wrap ((List.length x0_v.board.Letters : Int) - 1))) (lbind (g_sight_view_firstFault_l4 x0_v (Int.toNat ((IntKind.i64.wrap ((List.length x0_v.board.Letters : Int) - 1)) - 0)) 0) (fun r26 => some r26) (fun c25 => some ((GSightFault.mk 0 0), false)) (fun _ _ => none)) none) (fun _ _ => none)) (fun _ _ => none)) (fun _ _ => none)) none) (fun _ _ => none)) none
theorem g_sight_view_firstFault_ok (x0_v : Gsightview) (R : GSightFault × Bool) (h : g_sight_view_firstFault x0_v = some R) : VPure Tryz.prog G0 65 [.agg (cGsightview x0_v)] (.tree (.tup [.agg (cGSightFault R.1), .lit (.bool R.2)])) := by
 refine VPure.runR mixed Tryz.call65 Tryz.func65 rfl (by simp [Tryz.ntmps65]; kernel_rfl) ?_
 obtain ⟨KF, h, kF, kN⟩ := fun_intro h
 simp only [g_sight_view_firstFault] at h
 cases g32 : (lenOk x0_v.SightStreet.Blocks)
 ·simp only [g32, hs, reduceCtorEq] at h
  exact absurd h kN
 simp only [g32, hs, reduceCtorEq] at h
 simp only [vz, tyf, g32, nm, seval]
 obtain ⟨K31, h, kR31, kG31, kB31, kN31⟩ := lbind_intro h kN
 obtain ⟨f31, hf31, h⟩ := call2 h
 obtain ⟨I31, hI31⟩ : ∃ I : Nat → St → Prop, I = (fun m st => ∃ (p31 : List GSightBlock) (c31_15 : Int), m = List.length p31 ∧ 0 ≤ c31_15 ∧ List.drop (Int.toNat c31_15) x0_v.SightStreet.Blocks = p31 ∧ st.df = [.fn (.func 104) [.ptr 1 0, .ptr 2 0] []] ∧ 10 ≤ st.nx ∧ st.H 0 = some (.cells (some 97) (cGsightview x0_v)) ∧ st.H 1 = some (.cells (some 49) ([.lit (.int .i64 0)] ++ [.lit (.int .i64 0)])) ∧ st.H 2 = some (.cells (some 4) ([.lit (.bool false)])) ∧ st.tm 1 = .ptr 0 0 ∧ st.tm 2 = .ptr 1 0 ∧ st.tm 3 = .ptr 2 0 ∧ st.tm 13 = .sl (cellsL cGSightBlock x0_v.SightStreet.Blocks) (List.length x0_v.SightStreet.Blocks) false ∧ st.tm 14 = .lit (.int .i64 (List.length x0_v.SightStreet.Blocks : Int)) ∧ st.tm 15 = .lit (.int .i64 c31_15) ∧ K31 (f31 p31 c31_15)) := ⟨_, rfl⟩
 refine loopK mixed (by kernel_rfl) I31 (List.length x0_v.SightStreet.Blocks) (by rw [hI31]; refine ⟨x0_v.SightStreet.Blocks, 0, rfl, Int.le_refl _, rfl, rfl, (show 10 ≤ 10 by omega), ?_, ?_, ?_, ?_, ?_, ?_, ?_, ?_, ?_, h⟩ <;> first | (simp only [ua, nm, seval] <;> rfl) | rfl) ?_
 rintro m ⟨tm, H, nx31, df⟩ hinv
 rw [hI31] at hinv
 obtain ⟨p31, c31_15, rfl, hi31, hp31, hdf, hn31, H33, H34, H35, e36, e37, e38, e39, e40, e41, h⟩ := hinv
 simp only at hdf hn31 H33 H34 H35 e36 e37 e38 e39 e40 e41
 have n42 := base_ne0 (m := 10) (b := nx31) (by omega)
 subst hdf hf31
 cases p31 with
 | nil =>
  have d43 : (decide (c31_15 < (List.length x0_v.SightStreet.Blocks : Int))) = false := not_lt_of_drop hi31 hp31
  simp only [g_sight_view_firstFault_l0, hs, reduceCtorEq] at h
  replace h := kG31 _ h
  try dsimp only at h
  try simp only [hs] at h
  try simp only [vz, tyf, g32, n42, e36, e37, e38, e39, e40, e41, H33, H34, H35, d43, nm, seval]
  refine kopen ?_
  rw [openK_eq]
  refine VOpen.run mixed Tryz.call106 Tryz.func106 rfl (by simp [Tryz.ntmps106]; kernel_rfl) ?_
  try simp only [vz, tyf, g32, n42, H33, H34, H35, d43, nm, seval]
  refine opd_ret (x := (.agg ([.fn (.func 124) [] []] ++ [.fn (.func 125) [] []] ++ [.fn (.func 126) [] []]))) (by first | (simp only [Tryz.results106, resV, resL, resV1, tgt_ptr, tgt_tp, uw, cr, tyf, g32, n42, H33, H34, H35, d43, nm, seval] <;> rfl) | rfl) ?_
  simp only [vz, tyf, g32, n42, H33, H34, H35, d43, e36, e37, e38, e39, e40, e41, nm, seval]
  refine cwp_rounds mixed (by kernel_rfl) 4 ?_
  cases g45 : (lenOk x0_v.board.Letters)
  ·simp only [g45, hs, reduceCtorEq] at h
   exact absurd h kN
  simp only [g45, hs, reduceCtorEq] at h
  simp only [vz, tyf, g32, n42, H33, H34, H35, d43, e36, e37, e38, e39, e40, e41, g45, nm, seval]
  obtain ⟨K44, h, kR44, kG44, kB44, kN44⟩ := lbind_intro h kN
  obtain ⟨f44, hf44, h⟩ := call2 h
  obtain ⟨I44, hI44⟩ : ∃ I : Nat → St → Prop, I = (fun m st => ∃ (p44 : List GSightLetter) (c44_36 : Int), m = List.length p44 ∧ 0 ≤ c44_36 ∧ List.drop (Int.toNat c44_36) x0_v.board.Letters = p44 ∧ st.df = [.fn (.func 104) [.ptr 1 0, .ptr 2 0] []] ∧ nx31 + 16 ≤ st.nx ∧ st.H 0 = some (.cells (some 97) (cGsightview x0_v)) ∧ st.H 1 = some (.cells (some 49) ([.lit (.int .i64 0)] ++ [.lit (.int .i64 0)])) ∧ st.H 2 = some (.cells (some 4) ([.lit (.bool false)])) ∧ st.tm 1 = .ptr 0 0 ∧ st.tm 2 = .ptr 1 0 ∧ st.tm 3 = .ptr 2 0 ∧ st.tm 6 = .lit (.int .i64 0) ∧ st.tm 7 = .fn (.func 124) [] [] ∧ st.tm 27 = .agg ([.fn (.func 124) [] []] ++ [.fn (.func 125) [] []] ++ [.fn (.func 126) [] []]) ∧ st.tm 28 = .lit (.int .i64 0) ∧ st.tm 35 = .lit (.int .i64 (List.length x0_v.board.Letters : Int)) ∧ st.tm 36 = .lit (.int .i64 c44_36) ∧ K44 (f44 p44 c44_36)) := ⟨_, rfl⟩
  refine loopK mixed (by kernel_rfl) I44 (List.length x0_v.board.Letters) (by rw [hI44]; refine ⟨x0_v.board.Letters, 0, rfl, Int.le_refl _, rfl, rfl, (show nx31 + 16 ≤ nx31 + 16 by omega), ?_, ?_, ?_, e36, e37, e38, ?_, ?_, ?_, ?_, ?_, ?_, h⟩ <;> first | (simp only [ua, n42, H33, H34, H35, d43, e36, e37, e38, e39, e40, e41, nm, seval] <;> rfl) | rfl) ?_
  rintro m ⟨tm, H, nx44, df⟩ hinv
  rw [hI44] at hinv
  obtain ⟨p44, c44_36, rfl, hi44, hp44, hdf, hn44, H46, H47, H48, e49, e50, e51, e52, e53, e54, e55, e56, e57, h⟩ := hinv
  simp only at hdf hn44 H46 H47 H48 e49 e50 e51 e52 e53 e54 e55 e56 e57
  have n58 := base_ne0 (m := 10) (b := nx44) (by omega)
  have n59 := base_ne (a := nx31) (m := 16) (b := nx44) (by omega)
  subst hdf hf44
  cases p44 with
  | nil =>
   have d60 : (decide (c44_36 < (List.length x0_v.board.Letters : Int))) = false := not_lt_of_drop hi44 hp44
   simp only [g_sight_view_firstFault_l1, g_sight_view_firstFault_l2, g_sight_view_firstFault_l3, hs, reduceCtorEq] at h
   replace h := kG44 _ h
   try dsimp only at h
   try simp only [hs] at h
   simp only [vz, tyf, g32, n42, d43, g45, n58, n59, e49, e50, e51, e52, e53, e54, e55, e56, e57, H46, H47, H48, d60, nm, seval]
   obtain ⟨K61, h, kR61, kG61, kB61, kN61⟩ := lbind_intro h kN
   obtain ⟨f61, hf61, h⟩ := call2 h
   obtain ⟨I61, hI61⟩ : ∃ I : Nat → St → Prop, I = (fun m st => ∃ (p61 : List GSightLetter) (c61_36 : Int), m = List.length p61 ∧ 0 ≤ c61_36 ∧ List.drop (Int.toNat c61_36) x0_v.board.Letters = p61 ∧ st.df = [.fn (.func 104) [.ptr 1 0, .ptr 2 0] []] ∧ nx44 + 13 ≤ st.nx ∧ st.H 0 = some (.cells (some 97) (cGsightview x0_v)) ∧ st.H 1 = some (.cells (some 49) ([.lit (.int .i64 0)] ++ [.lit (.int .i64 0)])) ∧ st.H 2 = some (.cells (some 4) ([.lit (.bool false)])) ∧ st.tm 1 = .ptr 0 0 ∧ st.tm 2 = .ptr 1 0 ∧ st.tm 3 = .ptr 2 0 ∧ st.tm 6 = .lit (.int .i64 1) ∧ st.tm 7 = .fn (.func 125) [] [] ∧ st.tm 27 = .agg ([.fn (.func 124) [] []] ++ [.fn (.func 125) [] []] ++ [.fn (.func 126) [] []]) ∧ st.tm 28 = .lit (.int .i64 1) ∧ st.tm 35 = .lit (.int .i64 (List.length x0_v.board.Letters : Int)) ∧ st.tm 36 = .lit (.int .i64 c61_36) ∧ K61 (f61 p61 c61_36)) := ⟨_, rfl⟩
   refine loopK mixed (by kernel_rfl) I61 (List.length x0_v.board.Letters) (by rw [hI61]; refine ⟨x0_v.board.Letters, 0, rfl, Int.le_refl _, rfl, rfl, (show nx44 + 13 ≤ nx44 + 13 by omega), ?_, ?_, ?_, e49, e50, e51, ?_, ?_, e54, ?_, ?_, ?_, h⟩ <;> first | (simp only [ua, n42, d43, n58, n59, e49, e50, e51, e52, e53, e54, e55, e56, e57, H46, H47, H48, d60, nm, seval] <;> rfl) | rfl) ?_
   rintro m ⟨tm, H, nx61, df⟩ hinv
   rw [hI61] at hinv
   obtain ⟨p61, c61_36, rfl, hi61, hp61, hdf, hn61, H62, H63, H64, e65, e66, e67, e68, e69, e70, e71, e72, e73, h⟩ := hinv
   simp only at hdf hn61 H62 H63 H64 e65 e66 e67 e68 e69 e70 e71 e72 e73
   have n74 := base_ne0 (m := 10) (b := nx61) (by omega)
   have n75 := base_ne (a := nx31) (m := 16) (b := nx61) (by omega)
   have n76 := base_ne (a := nx44) (m := 13) (b := nx61) (by omega)
   subst hdf hf61
   cases p61 with
   | nil =>
    have d77 : (decide (c61_36 < (List.length x0_v.board.Letters : Int))) = false := not_lt_of_drop hi61 hp61
    simp only [g_sight_view_firstFault_l1, g_sight_view_firstFault_l2, g_sight_view_firstFault_l3, hs, reduceCtorEq] at h
    replace h := kG61 _ h
    try dsimp only at h
    try simp only [hs] at h
    simp only [vz, tyf, g32, n42, d43, g45, n58, n59, d60, n74, n75, n76, e65, e66, e67, e68, e69, e70, e71, e72, e73, H62, H63, H64, d77, nm, seval]
    obtain ⟨K78, h, kR78, kG78, kB78, kN78⟩ := lbind_intro h kN
    obtain ⟨f78, hf78, h⟩ := call2 h
    obtain ⟨I78, hI78⟩ : ∃ I : Nat → St → Prop, I = (fun m st => ∃ (p78 : List GSightLetter) (c78_36 : Int), m = List.length p78 ∧ 0 ≤ c78_36 ∧ List.drop (Int.toNat c78_36) x0_v.board.Letters = p78 ∧ st.df = [.fn (.func 104) [.ptr 1 0, .ptr 2 0] []] ∧ nx61 + 13 ≤ st.nx ∧ st.H 0 = some (.cells (some 97) (cGsightview x0_v)) ∧ st.H 1 = some (.cells (some 49) ([.lit (.int .i64 0)] ++ [.lit (.int .i64 0)])) ∧ st.H 2 = some (.cells (some 4) ([.lit (.bool false)])) ∧ st.tm 1 = .ptr 0 0 ∧ st.tm 2 = .ptr 1 0 ∧ st.tm 3 = .ptr 2 0 ∧ st.tm 6 = .lit (.int .i64 2) ∧ st.tm 7 = .fn (.func 126) [] [] ∧ st.tm 27 = .agg ([.fn (.func 124) [] []] ++ [.fn (.func 125) [] []] ++ [.fn (.func 126) [] []]) ∧ st.tm 28 = .lit (.int .i64 2) ∧ st.tm 35 = .lit (.int .i64 (List.length x0_v.board.Letters : Int)) ∧ st.tm 36 = .lit (.int .i64 c78_36) ∧ K78 (f78 p78 c78_36)) := ⟨_, rfl⟩
    refine loopK mixed (by kernel_rfl) I78 (List.length x0_v.board.Letters) (by rw [hI78]; refine ⟨x0_v.board.Letters, 0, rfl, Int.le_refl _, rfl, rfl, (show nx61 + 13 ≤ nx61 + 13 by omega), ?_, ?_, ?_, e65, e66, e67, ?_, ?_, e70, ?_, ?_, ?_, h⟩ <;> first | (simp only [ua, n42, d43, n58, n59, d60, n74, n75, n76, e65, e66, e67, e68, e69, e70, e71, e72, e73, H62, H63, H64, d77, nm, seval] <;> rfl) | rfl) ?_
    rintro m ⟨tm, H, nx78, df⟩ hinv
    rw [hI78] at hinv
    obtain ⟨p78, c78_36, rfl, hi78, hp78, hdf, hn78, H79, H80, H81, e82, e83, e84, e85, e86, e87, e88, e89, e90, h⟩ := hinv
    simp only at hdf hn78 H79 H80 H81 e82 e83 e84 e85 e86 e87 e88 e89 e90
    have n91 := base_ne0 (m := 10) (b := nx78) (by omega)
    have n92 := base_ne (a := nx31) (m := 16) (b := nx78) (by omega)
    have n93 := base_ne (a := nx44) (m := 13) (b := nx78) (by omega)
    have n94 := base_ne (a := nx61) (m := 13) (b := nx78) (by omega)
    subst hdf hf78
    cases p78 with
    | nil =>
     have d95 : (decide (c78_36 < (List.length x0_v.board.Letters : Int))) = false := not_lt_of_drop hi78 hp78
     simp only [g_sight_view_firstFault_l1, g_sight_view_firstFault_l2, g_sight_view_firstFault_l3, hs, reduceCtorEq] at h
     replace h := kG78 _ h
     try dsimp only at h
     try simp only [hs] at h
     cases g97 : (boundOk (IntKind.i64.wrap ((List.length x0_v.board.Letters : Int) - 1)))
     ·simp only [g97, hs, reduceCtorEq] at h
      exact absurd h kN
     simp only [g97, hs, reduceCtorEq] at h
     simp only [vz, tyf, g32, n42, d43, g45, n58, n59, d60, n74, n75, n76, d77, n91, n92, n93, n94, e82, e83, e84, e85, e86, e87, e88, e89, e90, H79, H80, H81, d95, g97, nm, seval]
     obtain ⟨K96, h, kR96, kG96, kB96, kN96⟩ := lbind_intro h kN
     obtain ⟨f96, hf96, h⟩ := call2 h
     obtain ⟨I96, hI96⟩ : ∃ I : Nat → St → Prop, I = (fun m st => ∃ (p96 : Nat) (c96_54 : Int), p96 = m ∧ loOk c96_54 = true ∧ Int.toNat ((IntKind.i64.wrap ((List.length x0_v.board.Letters : Int) - 1)) - c96_54) = p96 ∧ st.df = [.fn (.func 104) [.ptr 1 0, .ptr 2 0] []] ∧ nx78 + 10 ≤ st.nx ∧ st.H 0 = some (.cells (some 97) (cGsightview x0_v)) ∧ st.H 1 = some (.cells (some 49) ([.lit (.int .i64 0)] ++ [.lit (.int .i64 0)])) ∧ st.H 2 = some (.cells (some 4) ([.lit (.bool false)])) ∧ st.tm 1 = .ptr 0 0 ∧ st.tm 2 = .ptr 1 0 ∧ st.tm 3 = .ptr 2 0 ∧ st.tm 53 = .lit (.int .i64 (IntKind.i64.wrap ((List.length x0_v.board.Letters : Int) - 1))) ∧ st.tm 54 = .lit (.int .i64 c96_54) ∧ K96 (f96 p96 c96_54)) := ⟨_, rfl⟩
     refine loopK mixed (by kernel_rfl) I96 (Int.toNat ((IntKind.i64.wrap ((List.length x0_v.board.Letters : Int) - 1)) - 0)) (by rw [hI96]; refine ⟨Int.toNat ((IntKind.i64.wrap ((List.length x0_v.board.Letters : Int) - 1)) - 0), 0, rfl, (by rfl), rfl, rfl, (show nx78 + 10 ≤ nx78 + 10 by omega), ?_, ?_, ?_, e82, e83, e84, ?_, ?_, h⟩ <;> first | (simp only [ua, n42, d43, n58, n59, d60, n74, n75, n76, d77, n91, n92, n93, n94, e82, e83, e84, e85, e86, e87, e88, e89, e90, H79, H80, H81, d95, nm, seval] <;> rfl) | rfl) ?_
     rintro m ⟨tm, H, nx96, df⟩ hinv
     rw [hI96] at hinv
     obtain ⟨p96, c96_54, rfl, hi96, hp96, hdf, hn96, H98, H99, H100, e101, e102, e103, e104, e105, h⟩ := hinv
     simp only at hdf hn96 H98 H99 H100 e101 e102 e103 e104 e105
     have n106 := base_ne0 (m := 10) (b := nx96) (by omega)
     have n107 := base_ne (a := nx31) (m := 16) (b := nx96) (by omega)
     have n108 := base_ne (a := nx44) (m := 13) (b := nx96) (by omega)
     have n109 := base_ne (a := nx61) (m := 13) (b := nx96) (by omega)
     have n110 := base_ne (a := nx78) (m := 10) (b := nx96) (by omega)
     subst hdf hf96
     cases p96 with
     | zero =>
      have d111 : (decide (c96_54 < (IntKind.i64.wrap ((List.length x0_v.board.Letters : Int) - 1)))) = false := cnt_not_lt hp96
      simp only [g_sight_view_firstFault_l4, hs, reduceCtorEq] at h
      replace h := kG96 _ h
      try dsimp only at h
      try simp only [hs] at h
      try simp only [vz, tyf, g32, n42, d43, g45, n58, n59, d60, n74, n75, n76, d77, n91, n92, n93, n94, d95, g97, n106, n107, n108, n109, n110, e101, e102, e103, e104, e105, H98, H99, H100, d111, nm, seval]
      refine opd_retD ?_
      refine VDeferred.run mixed Tryz.call104 Tryz.func104 rfl (by kernel_rfl) ?_
      try simp only [vz, tyf, g32, n42, d43, g45, n58, n59, d60, n74, n75, n76, d77, n91, n92, n93, n94, d95, g97, n106, n107, n108, n109, n110, H98, H99, H100, d111, nm, seval]
      refine dpost_normal Tryz.results104 ?_
      refine afterD_ret (x := (.tup [.agg ([.lit (.int .i64 0)] ++ [.lit (.int .i64 0)]), .lit (.bool false)])) (by first | (simp only [Tryz.results65, resV, resL, resV1, tgt_ptr, tgt_tp, uw, cr, tyf, g32, n42, d43, g45, n58, n59, d60, n74, n75, n76, d77, n91, n92, n93, n94, d95, g97, n106, n107, n108, n109, n110, H98, H99, H100, d111, e101, e102, e103, e104, e105, nm, seval] <;> rfl) | rfl) ?_
      obtain rfl := kF _ h
      refine rr_tree ?_ ?_
      ·simp only [tre, tytre, Bool.and_self]
      ·first | (simp only [outV, uw, showV_ref, cr, tyf, nrm, tynrm, g32, n42, d43, g45, n58, n59, d60, n74, n75, n76, d77, n91, n92, n93, n94, d95, g97, n106, n107, n108, n109, n110, H98, H99, H100, d111, e101, e102, e103, e104, e105, nm, seval] <;> rfl) | rfl
     | succ p96 =>
      have d112 : (decide (c96_54 < (IntKind.i64.wrap ((List.length x0_v.board.Letters : Int) - 1)))) = true := cnt_lt hp96
      have w113 := cnt_wrap hi96 hp96 g97
      simp only [g_sight_view_firstFault_l4, hs, reduceCtorEq] at h
      cases o115 : (g_sight_view_isApart x0_v c96_54) with
      | none =>
       simp only [o115, hs, reduceCtorEq] at h
       exact absurd h kN96
      | some r114 =>
       simp only [o115, hs, reduceCtorEq] at h
       simp only [vz, tyf, g32, n42, d43, g45, n58, n59, d60, n74, n75, n76, d77, n91, n92, n93, n94, d95, g97, n106, n107, n108, n109, n110, e101, e102, e103, e104, e105, H98, H99, H100, d112, w113, nm, seval]
       refine ktree (args0 := [.agg (cGsightview x0_v), .lit (.int .i64 c96_54)]) (by first | (simp only [nrm, tynrm] <;> rfl) | rfl) (by simp only [tre, tytre, Bool.and_self]) (g_sight_view_isApart_ok _ _ _ o115) ?_
       refine fin_cut (fun tm => tm 1 = .ptr 0 0 ∧ tm 2 = .ptr 1 0 ∧ tm 3 = .ptr 2 0 ∧ tm 9 = .lit (.int .i64 c96_54) ∧ tm 53 = .lit (.int .i64 (IntKind.i64.wrap ((List.length x0_v.board.Letters : Int) - 1))) ∧ tm 54 = .lit (.int .i64 c96_54) ∧ tm 59 = .lit (.bool r114) ∧ True) (by refine ⟨e101, e102, e103, ?_, e104, e105, ?_, trivial⟩ <;> first | (simp only [ua, n42, d43, n58, n59, d60, n74, n75, n76, d77, n91, n92, n93, n94, d95, n106, n107, n108, n109, n110, e101, e102, e103, e104, e105, H98, H99, H100, d112, w113, nm, seval] <;> rfl) | rfl) ?_
       rintro tm ⟨e116, e117, e118, e119, e120, e121, e122, _⟩
       have b123 := And.intro g32 (And.intro d43 (And.intro g45 (And.intro d60 (And.intro d77 (And.intro d95 (And.intro g97 d112))))))
       cases o125 : (g_sight_must r114 5 c96_54) with
       | none =>
        simp only [o125, hs, reduceCtorEq] at h
        exact absurd h kN96
       | some r124 =>
        simp only [o125, hs, reduceCtorEq] at h
        cases r124 with
        | inl u126 =>
         simp only [hs, reduceCtorEq] at h
         simp only [vz, tyf, b123, n42, n58, n59, n74, n75, n76, n91, n92, n93, n94, n106, n107, n108, n109, n110, H98, H99, H100, w113, e116, e117, e118, e119, e120, e121, e122, nm, seval]
         refine ktree (args0 := [.lit (.bool r114), .lit (.int .i64 5), .lit (.int .i64 c96_54)]) (by first | (simp only [nrm, tynrm] <;> rfl) | rfl) (by simp only [tre, tytre, Bool.and_self]) (g_sight_must_ok _ _ _ _ o125) ?_
         refine fin_cut (fun tm => tm 1 = .ptr 0 0 ∧ tm 2 = .ptr 1 0 ∧ tm 3 = .ptr 2 0 ∧ tm 53 = .lit (.int .i64 (IntKind.i64.wrap ((List.length x0_v.board.Letters : Int) - 1))) ∧ tm 54 = .lit (.int .i64 c96_54) ∧ True) (by refine ⟨e116, e117, e118, e120, e121, trivial⟩ <;> first | (simp only [ua, b123, n42, n58, n59, n74, n75, n76, n91, n92, n93, n94, n106, n107, n108, n109, n110, H98, H99, H100, w113, e116, e117, e118, e119, e120, e121, e122, nm, seval] <;> rfl) | rfl) ?_
         rintro tm ⟨e128, e129, e130, e131, e132, _⟩
         simp only [vz, tyf, b123, n42, n58, n59, n74, n75, n76, n91, n92, n93, n94, n106, n107, n108, n109, n110, H98, H99, H100, w113, e128, e129, e130, e131, e132, nm, seval]
         exact ⟨p96, Nat.lt_succ_self _, by rw [hI96]; refine ⟨p96, c96_54 + 1, rfl, cnt_lo hi96, cnt_next hp96, rfl, (show nx78 + 10 ≤ nx96 + 10 by omega), ?_, ?_, ?_, e128, e129, e130, e131, ?_, h⟩ <;> first | (simp only [ua, b123, n42, n58, n59, n74, n75, n76, n91, n92, n93, n94, n106, n107, n108, n109, n110, H98, H99, H100, w113, e128, e129, e130, e131, e132, nm, seval] <;> rfl) | rfl⟩
        | inr w127 =>
         simp only [hs, reduceCtorEq] at h
         simp only [vz, tyf, b123, n42, n58, n59, n74, n75, n76, n91, n92, n93, n94, n106, n107, n108, n109, n110, H98, H99, H100, w113, e116, e117, e118, e119, e120, e121, e122, nm, seval]
         refine kpan (args0 := [.lit (.bool r114), .lit (.int .i64 5), .lit (.int .i64 c96_54)]) (by first | (simp only [nrm, tynrm] <;> rfl) | rfl) (by simp only [tre, tytre, Bool.and_self]) (g_sight_must_ok _ _ _ _ o125) ?_
         simp only [vz, tyf, b123, n42, n58, n59, n74, n75, n76, n91, n92, n93, n94, n106, n107, n108, n109, n110, H98, H99, H100, w113, e116, e117, e118, e119, e120, e121, e122, nm, seval]
         refine opd_panicD ?_
         refine VDeferred.run mixed Tryz.call104 Tryz.func104 rfl (by kernel_rfl) ?_
         try simp only [vz, tyf, b123, n42, n58, n59, n74, n75, n76, n91, n92, n93, n94, n106, n107, n108, n109, n110, H98, H99, H100, w113, nm, seval]
         refine dpost_normal Tryz.results104 ?_
         refine afterD_rec (x := (.tup [.agg (cGSightFault w127.SightFault), .lit (.bool true)])) (by first | (simp only [Tryz.results65, resV, resL, resV1, tgt_ptr, tgt_tp, uw, cr, tyf, b123, n42, n58, n59, n74, n75, n76, n91, n92, n93, n94, n106, n107, n108, n109, n110, H98, H99, H100, w113, e116, e117, e118, e119, e120, e121, e122, nm, seval] <;> rfl) | rfl) ?_
         replace h := kR96 _ h
         try dsimp only at h
         obtain rfl := kF _ h
         refine rr_tree ?_ ?_
         ·simp only [tre, tytre, Bool.and_self]
         ·first | (simp only [outV, uw, showV_ref, cr, tyf, nrm, tynrm, b123, n42, n58, n59, n74, n75, n76, n91, n92, n93, n94, n106, n107, n108, n109, n110, H98, H99, H100, w113, e116, e117, e118, e119, e120, e121, e122, nm, seval] <;> rfl) | rfl
    | cons e78 p78 =>
     have d133 : (decide (c78_36 < (List.length x0_v.board.Letters : Int))) = true := lt_of_drop hi78 hp78
     have o135 := getI_of_drop hi78 hp78
     have w134 := wrap_next hi78 hp78 g45
     simp only [g_sight_view_firstFault_l1, g_sight_view_firstFault_l2, g_sight_view_firstFault_l3, hs, reduceCtorEq] at h
     cases o137 : (g_sight_view_isThick x0_v c78_36) with
     | none =>
      simp only [o137, hs, reduceCtorEq] at h
      exact absurd h kN78
     | some r136 =>
      simp only [o137, hs, reduceCtorEq] at h
      simp only [vz, tyf, g32, n42, d43, g45, n58, n59, d60, n74, n75, n76, d77, n91, n92, n93, n94, e82, e83, e84, e85, e86, e87, e88, e89, e90, H79, H80, H81, d133, (ix40 o135), w134, nm, seval]
      refine ktree (args0 := [.agg (cGsightview x0_v), .lit (.int .i64 c78_36)]) (by first | (simp only [nrm, tynrm] <;> rfl) | rfl) (by simp only [tre, tytre, Bool.and_self]) (g_sight_view_isThick_ok _ _ _ o137) ?_
      refine fin_cut (fun tm => tm 1 = .ptr 0 0 ∧ tm 2 = .ptr 1 0 ∧ tm 3 = .ptr 2 0 ∧ tm 6 = .lit (.int .i64 2) ∧ tm 7 = .fn (.func 126) [] [] ∧ tm 8 = .lit (.int .i64 c78_36) ∧ tm 27 = .agg ([.fn (.func 124) [] []] ++ [.fn (.func 125) [] []] ++ [.fn (.func 126) [] []]) ∧ tm 28 = .lit (.int .i64 2) ∧ tm 35 = .lit (.int .i64 (List.length x0_v.board.Letters : Int)) ∧ tm 36 = .lit (.int .i64 c78_36) ∧ tm 42 = .lit (.bool r136) ∧ True) (by refine ⟨e82, e83, e84, e85, e86, ?_, e87, e88, e89, e90, ?_, trivial⟩ <;> first | (simp only [ua, n42, d43, n58, n59, d60, n74, n75, n76, d77, n91, n92, n93, n94, e82, e83, e84, e85, e86, e87, e88, e89, e90, H79, H80, H81, d133, w134, nm, seval] <;> rfl) | rfl) ?_
      rintro tm ⟨e138, e139, e140, e141, e142, e143, e144, e145, e146, e147, e148, _⟩
      cases o150 : (g_sight_must r136 4 c78_36) with
      | none =>
       simp only [o150, hs, reduceCtorEq] at h
       exact absurd h kN78
      | some r149 =>
       simp only [o150, hs, reduceCtorEq] at h
       cases r149 with
       | inl u151 =>
        simp only [hs, reduceCtorEq] at h
        simp only [vz, tyf, g32, n42, d43, g45, n58, n59, d60, n74, n75, n76, d77, n91, n92, n93, n94, H79, H80, H81, d133, (ix40 o135), w134, e138, e139, e140, e141, e142, e143, e144, e145, e146, e147, e148, nm, seval]
        refine ktree (args0 := [.lit (.bool r136), .lit (.int .i64 4), .lit (.int .i64 c78_36)]) (by first | (simp only [nrm, tynrm] <;> rfl) | rfl) (by simp only [tre, tytre, Bool.and_self]) (g_sight_must_ok _ _ _ _ o150) ?_
        refine fin_cut (fun tm => tm 1 = .ptr 0 0 ∧ tm 2 = .ptr 1 0 ∧ tm 3 = .ptr 2 0 ∧ tm 6 = .lit (.int .i64 2) ∧ tm 7 = .fn (.func 126) [] [] ∧ tm 27 = .agg ([.fn (.func 124) [] []] ++ [.fn (.func 125) [] []] ++ [.fn (.func 126) [] []]) ∧ tm 28 = .lit (.int .i64 2) ∧ tm 35 = .lit (.int .i64 (List.length x0_v.board.Letters : Int)) ∧ tm 36 = .lit (.int .i64 c78_36) ∧ True) (by refine ⟨e138, e139, e140, e141, e142, e144, e145, e146, e147, trivial⟩ <;> first | (simp only [ua, n42, d43, n58, n59, d60, n74, n75, n76, d77, n91, n92, n93, n94, H79, H80, H81, d133, w134, e138, e139, e140, e141, e142, e143, e144, e145, e146, e147, e148, nm, seval] <;> rfl) | rfl) ?_
        rintro tm ⟨e153, e154, e155, e156, e157, e158, e159, e160, e161, _⟩
        simp only [vz, tyf, g32, n42, d43, g45, n58, n59, d60, n74, n75, n76, d77, n91, n92, n93, n94, H79, H80, H81, d133, (ix40 o135), w134, e153, e154, e155, e156, e157, e158, e159, e160, e161, nm, seval]
        exact ⟨List.length p78, Nat.lt_succ_self _, by rw [hI78]; refine ⟨p78, c78_36 + 1, rfl, Int.le_trans hi78 (Int.le_add_one (Int.le_refl _)), drop_next hi78 hp78, rfl, (show nx61 + 13 ≤ nx78 + 13 by omega), ?_, ?_, ?_, e153, e154, e155, e156, e157, e158, e159, e160, ?_, h⟩ <;> first | (simp only [ua, n42, d43, n58, n59, d60, n74, n75, n76, d77, n91, n92, n93, n94, H79, H80, H81, d133, w134, e153, e154, e155, e156, e157, e158, e159, e160, e161, nm, seval] <;> rfl) | rfl⟩
       | inr w152 =>
        simp only [hs, reduceCtorEq] at h
        simp only [vz, tyf, g32, n42, d43, g45, n58, n59, d60, n74, n75, n76, d77, n91, n92, n93, n94, H79, H80, H81, d133, (ix40 o135), w134, e138, e139, e140, e141, e142, e143, e144, e145, e146, e147, e148, nm, seval]
        refine kpan (args0 := [.lit (.bool r136), .lit (.int .i64 4), .lit (.int .i64 c78_36)]) (by first | (simp only [nrm, tynrm] <;> rfl) | rfl) (by simp only [tre, tytre, Bool.and_self]) (g_sight_must_ok _ _ _ _ o150) ?_
        simp only [vz, tyf, g32, n42, d43, g45, n58, n59, d60, n74, n75, n76, d77, n91, n92, n93, n94, H79, H80, H81, d133, (ix40 o135), w134, e138, e139, e140, e141, e142, e143, e144, e145, e146, e147, e148, nm, seval]
        refine opd_panicD ?_
        refine VDeferred.run mixed Tryz.call104 Tryz.func104 rfl (by kernel_rfl) ?_
        try simp only [vz, tyf, g32, n42, d43, g45, n58, n59, d60, n74, n75, n76, d77, n91, n92, n93, n94, H79, H80, H81, d133, (ix40 o135), w134, nm, seval]
        refine dpost_normal Tryz.results104 ?_
        refine afterD_rec (x := (.tup [.agg (cGSightFault w152.SightFault), .lit (.bool true)])) (by first | (simp only [Tryz.results65, resV, resL, resV1, tgt_ptr, tgt_tp, uw, cr, tyf, g32, n42, d43, g45, n58, n59, d60, n74, n75, n76, d77, n91, n92, n93, n94, H79, H80, H81, d133, (ix40 o135), w134, e138, e139, e140, e141, e142, e143, e144, e145, e146, e147, e148, nm, seval] <;> rfl) | rfl) ?_
        replace h := kR78 _ h
        try dsimp only at h
        obtain rfl := kF _ h
        refine rr_tree ?_ ?_
        ·simp only [tre, tytre, Bool.and_self]
        ·first | (simp only [outV, uw, showV_ref, cr, tyf, nrm, tynrm, g32, n42, d43, g45, n58, n59, d60, n74, n75, n76, d77, n91, n92, n93, n94, H79, H80, H81, d133, (ix40 o135), w134, e138, e139, e140, e141, e142, e143, e144, e145, e146, e147, e148, nm, seval] <;> rfl) | rfl
   | cons e61 p61 =>
    have d162 : (decide (c61_36 < (List.length x0_v.board.Letters : Int))) = true := lt_of_drop hi61 hp61
    have o164 := getI_of_drop hi61 hp61
    have w163 := wrap_next hi61 hp61 g45
    simp only [g_sight_view_firstFault_l1, g_sight_view_firstFault_l2, g_sight_view_firstFault_l3, hs, reduceCtorEq] at h
    cases o166 : (g_sight_view_isBroad x0_v c61_36) with
    | none =>
     simp only [o166, hs, reduceCtorEq] at h
     exact absurd h kN61
    | some r165 =>
     simp only [o166, hs, reduceCtorEq] at h
     simp only [vz, tyf, g32, n42, d43, g45, n58, n59, d60, n74, n75, n76, e65, e66, e67, e68, e69, e70, e71, e72, e73, H62, H63, H64, d162, (ix40 o164), w163, nm, seval]
     refine ktree (args0 := [.agg (cGsightview x0_v), .lit (.int .i64 c61_36)]) (by first | (simp only [nrm, tynrm] <;> rfl) | rfl) (by simp only [tre, tytre, Bool.and_self]) (g_sight_view_isBroad_ok _ _ _ o166) ?_
     refine fin_cut (fun tm => tm 1 = .ptr 0 0 ∧ tm 2 = .ptr 1 0 ∧ tm 3 = .ptr 2 0 ∧ tm 6 = .lit (.int .i64 1) ∧ tm 7 = .fn (.func 125) [] [] ∧ tm 8 = .lit (.int .i64 c61_36) ∧ tm 27 = .agg ([.fn (.func 124) [] []] ++ [.fn (.func 125) [] []] ++ [.fn (.func 126) [] []]) ∧ tm 28 = .lit (.int .i64 1) ∧ tm 35 = .lit (.int .i64 (List.length x0_v.board.Letters : Int)) ∧ tm 36 = .lit (.int .i64 c61_36) ∧ tm 42 = .lit (.bool r165) ∧ True) (by refine ⟨e65, e66, e67, e68, e69, ?_, e70, e71, e72, e73, ?_, trivial⟩ <;> first | (simp only [ua, n42, d43, n58, n59, d60, n74, n75, n76, e65, e66, e67, e68, e69, e70, e71, e72, e73, H62, H63, H64, d162, w163, nm, seval] <;> rfl) | rfl) ?_
     rintro tm ⟨e167, e168, e169, e170, e171, e172, e173, e174, e175, e176, e177, _⟩
     cases o179 : (g_sight_must r165 3 c61_36) with
     | none =>
      simp only [o179, hs, reduceCtorEq] at h
      exact absurd h kN61
     | some r178 =>
      simp only [o179, hs, reduceCtorEq] at h
      cases r178 with
      | inl u180 =>
       simp only [hs, reduceCtorEq] at h
       simp only [vz, tyf, g32, n42, d43, g45, n58, n59, d60, n74, n75, n76, H62, H63, H64, d162, (ix40 o164), w163, e167, e168, e169, e170, e171, e172, e173, e174, e175, e176, e177, nm, seval]
       refine ktree (args0 := [.lit (.bool r165), .lit (.int .i64 3), .lit (.int .i64 c61_36)]) (by first | (simp only [nrm, tynrm] <;> rfl) | rfl) (by simp only [tre, tytre, Bool.and_self]) (g_sight_must_ok _ _ _ _ o179) ?_
       refine fin_cut (fun tm => tm 1 = .ptr 0 0 ∧ tm 2 = .ptr 1 0 ∧ tm 3 = .ptr 2 0 ∧ tm 6 = .lit (.int .i64 1) ∧ tm 7 = .fn (.func 125) [] [] ∧ tm 27 = .agg ([.fn (.func 124) [] []] ++ [.fn (.func 125) [] []] ++ [.fn (.func 126) [] []]) ∧ tm 28 = .lit (.int .i64 1) ∧ tm 35 = .lit (.int .i64 (List.length x0_v.board.Letters : Int)) ∧ tm 36 = .lit (.int .i64 c61_36) ∧ True) (by refine ⟨e167, e168, e169, e170, e171, e173, e174, e175, e176, trivial⟩ <;> first | (simp only [ua, n42, d43, n58, n59, d60, n74, n75, n76, H62, H63, H64, d162, w163, e167, e168, e169, e170, e171, e172, e173, e174, e175, e176, e177, nm, seval] <;> rfl) | rfl) ?_
       rintro tm ⟨e182, e183, e184, e185, e186, e187, e188, e189, e190, _⟩
       simp only [vz, tyf, g32, n42, d43, g45, n58, n59, d60, n74, n75, n76, H62, H63, H64, d162, (ix40 o164), w163, e182, e183, e184, e185, e186, e187, e188, e189, e190, nm, seval]
       exact ⟨List.length p61, Nat.lt_succ_self _, by rw [hI61]; refine ⟨p61, c61_36 + 1, rfl, Int.le_trans hi61 (Int.le_add_one (Int.le_refl _)), drop_next hi61 hp61, rfl, (show nx44 + 13 ≤ nx61 + 13 by omega), ?_, ?_, ?_, e182, e183, e184, e185, e186, e187, e188, e189, ?_, h⟩ <;> first | (simp only [ua, n42, d43, n58, n59, d60, n74, n75, n76, H62, H63, H64, d162, w163, e182, e183, e184, e185, e186, e187, e188, e189, e190, nm, seval] <;> rfl) | rfl⟩
      | inr w181 =>
       simp only [hs, reduceCtorEq] at h
       simp only [vz, tyf, g32, n42, d43, g45, n58, n59, d60, n74, n75, n76, H62, H63, H64, d162, (ix40 o164), w163, e167, e168, e169, e170, e171, e172, e173, e174, e175, e176, e177, nm, seval]
       refine kpan (args0 := [.lit (.bool r165), .lit (.int .i64 3), .lit (.int .i64 c61_36)]) (by first | (simp only [nrm, tynrm] <;> rfl) | rfl) (by simp only [tre, tytre, Bool.and_self]) (g_sight_must_ok _ _ _ _ o179) ?_
       simp only [vz, tyf, g32, n42, d43, g45, n58, n59, d60, n74, n75, n76, H62, H63, H64, d162, (ix40 o164), w163, e167, e168, e169, e170, e171, e172, e173, e174, e175, e176, e177, nm, seval]
       refine opd_panicD ?_
       refine VDeferred.run mixed Tryz.call104 Tryz.func104 rfl (by kernel_rfl) ?_
       try simp only [vz, tyf, g32, n42, d43, g45, n58, n59, d60, n74, n75, n76, H62, H63, H64, d162, (ix40 o164), w163, nm, seval]
       refine dpost_normal Tryz.results104 ?_
       refine afterD_rec (x := (.tup [.agg (cGSightFault w181.SightFault), .lit (.bool true)])) (by first | (simp only [Tryz.results65, resV, resL, resV1, tgt_ptr, tgt_tp, uw, cr, tyf, g32, n42, d43, g45, n58, n59, d60, n74, n75, n76, H62, H63, H64, d162, (ix40 o164), w163, e167, e168, e169, e170, e171, e172, e173, e174, e175, e176, e177, nm, seval] <;> rfl) | rfl) ?_
       replace h := kR61 _ h
       try dsimp only at h
       obtain rfl := kF _ h
       refine rr_tree ?_ ?_
       ·simp only [tre, tytre, Bool.and_self]
       ·first | (simp only [outV, uw, showV_ref, cr, tyf, nrm, tynrm, g32, n42, d43, g45, n58, n59, d60, n74, n75, n76, H62, H63, H64, d162, (ix40 o164), w163, e167, e168, e169, e170, e171, e172, e173, e174, e175, e176, e177, nm, seval] <;> rfl) | rfl
  | cons e44 p44 =>
   have d191 : (decide (c44_36 < (List.length x0_v.board.Letters : Int))) = true := lt_of_drop hi44 hp44
   have o193 := getI_of_drop hi44 hp44
   have w192 := wrap_next hi44 hp44 g45
   simp only [g_sight_view_firstFault_l1, g_sight_view_firstFault_l2, g_sight_view_firstFault_l3, hs, reduceCtorEq] at h
   cases o195 : (g_sight_view_isTall x0_v c44_36) with
   | none =>
    simp only [o195, hs, reduceCtorEq] at h
    exact absurd h kN44
   | some r194 =>
    simp only [o195, hs, reduceCtorEq] at h
    simp only [vz, tyf, g32, n42, d43, g45, n58, n59, e49, e50, e51, e52, e53, e54, e55, e56, e57, H46, H47, H48, d191, (ix40 o193), w192, nm, seval]
    refine ktree (args0 := [.agg (cGsightview x0_v), .lit (.int .i64 c44_36)]) (by first | (simp only [nrm, tynrm] <;> rfl) | rfl) (by simp only [tre, tytre, Bool.and_self]) (g_sight_view_isTall_ok _ _ _ o195) ?_
    refine fin_cut (fun tm => tm 1 = .ptr 0 0 ∧ tm 2 = .ptr 1 0 ∧ tm 3 = .ptr 2 0 ∧ tm 6 = .lit (.int .i64 0) ∧ tm 7 = .fn (.func 124) [] [] ∧ tm 8 = .lit (.int .i64 c44_36) ∧ tm 27 = .agg ([.fn (.func 124) [] []] ++ [.fn (.func 125) [] []] ++ [.fn (.func 126) [] []]) ∧ tm 28 = .lit (.int .i64 0) ∧ tm 35 = .lit (.int .i64 (List.length x0_v.board.Letters : Int)) ∧ tm 36 = .lit (.int .i64 c44_36) ∧ tm 42 = .lit (.bool r194) ∧ True) (by refine ⟨e49, e50, e51, e52, e53, ?_, e54, e55, e56, e57, ?_, trivial⟩ <;> first | (simp only [ua, n42, d43, n58, n59, e49, e50, e51, e52, e53, e54, e55, e56, e57, H46, H47, H48, d191, w192, nm, seval] <;> rfl) | rfl) ?_
    rintro tm ⟨e196, e197, e198, e199, e200, e201, e202, e203, e204, e205, e206, _⟩
    cases o208 : (g_sight_must r194 2 c44_36) with
    | none =>
     simp only [o208, hs, reduceCtorEq] at h
     exact absurd h kN44
    | some r207 =>
     simp only [o208, hs, reduceCtorEq] at h
     cases r207 with
     | inl u209 =>
      simp only [hs, reduceCtorEq] at h
      simp only [vz, tyf, g32, n42, d43, g45, n58, n59, H46, H47, H48, d191, (ix40 o193), w192, e196, e197, e198, e199, e200, e201, e202, e203, e204, e205, e206, nm, seval]
      refine ktree (args0 := [.lit (.bool r194), .lit (.int .i64 2), .lit (.int .i64 c44_36)]) (by first | (simp only [nrm, tynrm] <;> rfl) | rfl) (by simp only [tre, tytre, Bool.and_self]) (g_sight_must_ok _ _ _ _ o208) ?_
      refine fin_cut (fun tm => tm 1 = .ptr 0 0 ∧ tm 2 = .ptr 1 0 ∧ tm 3 = .ptr 2 0 ∧ tm 6 = .lit (.int .i64 0) ∧ tm 7 = .fn (.func 124) [] [] ∧ tm 27 = .agg ([.fn (.func 124) [] []] ++ [.fn (.func 125) [] []] ++ [.fn (.func 126) [] []]) ∧ tm 28 = .lit (.int .i64 0) ∧ tm 35 = .lit (.int .i64 (List.length x0_v.board.Letters : Int)) ∧ tm 36 = .lit (.int .i64 c44_36) ∧ True) (by refine ⟨e196, e197, e198, e199, e200, e202, e203, e204, e205, trivial⟩ <;> first | (simp only [ua, n42, d43, n58, n59, H46, H47, H48, d191, w192, e196, e197, e198, e199, e200, e201, e202, e203, e204, e205, e206, nm, seval] <;> rfl) | rfl) ?_
      rintro tm ⟨e211, e212, e213, e214, e215, e216, e217, e218, e219, _⟩
      simp only [vz, tyf, g32, n42, d43, g45, n58, n59, H46, H47, H48, d191, (ix40 o193), w192, e211, e212, e213, e214, e215, e216, e217, e218, e219, nm, seval]
      exact ⟨List.length p44, Nat.lt_succ_self _, by rw [hI44]; refine ⟨p44, c44_36 + 1, rfl, Int.le_trans hi44 (Int.le_add_one (Int.le_refl _)), drop_next hi44 hp44, rfl, (show nx31 + 16 ≤ nx44 + 13 by omega), ?_, ?_, ?_, e211, e212, e213, e214, e215, e216, e217, e218, ?_, h⟩ <;> first | (simp only [ua, n42, d43, n58, n59, H46, H47, H48, d191, w192, e211, e212, e213, e214, e215, e216, e217, e218, e219, nm, seval] <;> rfl) | rfl⟩
     | inr w210 =>
      simp only [hs, reduceCtorEq] at h
      simp only [vz, tyf, g32, n42, d43, g45, n58, n59, H46, H47, H48, d191, (ix40 o193), w192, e196, e197, e198, e199, e200, e201, e202, e203, e204, e205, e206, nm, seval]
      refine kpan (args0 := [.lit (.bool r194), .lit (.int .i64 2), .lit (.int .i64 c44_36)]) (by first | (simp only [nrm, tynrm] <;> rfl) | rfl) (by simp only [tre, tytre, Bool.and_self]) (g_sight_must_ok _ _ _ _ o208) ?_
      simp only [vz, tyf, g32, n42, d43, g45, n58, n59, H46, H47, H48, d191, (ix40 o193), w192, e196, e197, e198, e199, e200, e201, e202, e203, e204, e205, e206, nm, seval]
      refine opd_panicD ?_
      refine VDeferred.run mixed Tryz.call104 Tryz.func104 rfl (by kernel_rfl) ?_
      try simp only [vz, tyf, g32, n42, d43, g45, n58, n59, H46, H47, H48, d191, (ix40 o193), w192, nm, seval]
      refine dpost_normal Tryz.results104 ?_
      refine afterD_rec (x := (.tup [.agg (cGSightFault w210.SightFault), .lit (.bool true)])) (by first | (simp only [Tryz.results65, resV, resL, resV1, tgt_ptr, tgt_tp, uw, cr, tyf, g32, n42, d43, g45, n58, n59, H46, H47, H48, d191, (ix40 o193), w192, e196, e197, e198, e199, e200, e201, e202, e203, e204, e205, e206, nm, seval] <;> rfl) | rfl) ?_
      replace h := kR44 _ h
      try dsimp only at h
      obtain rfl := kF _ h
      refine rr_tree ?_ ?_
      ·simp only [tre, tytre, Bool.and_self]
      ·first | (simp only [outV, uw, showV_ref, cr, tyf, nrm, tynrm, g32, n42, d43, g45, n58, n59, H46, H47, H48, d191, (ix40 o193), w192, e196, e197, e198, e199, e200, e201, e202, e203, e204, e205, e206, nm, seval] <;> rfl) | rfl
 | cons e31 p31 =>
  have d220 : (decide (c31_15 < (List.length x0_v.SightStreet.Blocks : Int))) = true := lt_of_drop hi31 hp31
  have o222 := getI_of_drop hi31 hp31
  have w221 := wrap_next hi31 hp31 g32
  simp only [g_sight_view_firstFault_l0, hs, reduceCtorEq] at h
  cases o224 : (g_sight_view_isBehind x0_v e31) with
  | none =>
   simp only [o224, hs, reduceCtorEq] at h
   exact absurd h kN31
  | some r223 =>
   simp only [o224, hs, reduceCtorEq] at h
   simp only [vz, tyf, g32, n42, e36, e37, e38, e39, e40, e41, H33, H34, H35, d220, (ix25 o222), w221, nm, seval]
   refine ktree (args0 := [.agg (cGsightview x0_v), .agg (cGSightBlock e31)]) (by first | (simp only [nrm, tynrm] <;> rfl) | rfl) (by simp only [tre, tytre, Bool.and_self]) (g_sight_view_isBehind_ok _ _ _ o224) ?_
   refine fin_cut (fun tm => tm 1 = .ptr 0 0 ∧ tm 2 = .ptr 1 0 ∧ tm 3 = .ptr 2 0 ∧ tm 4 = .lit (.int .i64 c31_15) ∧ tm 13 = .sl (cellsL cGSightBlock x0_v.SightStreet.Blocks) (List.length x0_v.SightStreet.Blocks) false ∧ tm 14 = .lit (.int .i64 (List.length x0_v.SightStreet.Blocks : Int)) ∧ tm 15 = .lit (.int .i64 c31_15) ∧ tm 22 = .lit (.bool r223) ∧ True) (by refine ⟨e36, e37, e38, ?_, e39, e40, e41, ?_, trivial⟩ <;> first | (simp only [ua, n42, e36, e37, e38, e39, e40, e41, H33, H34, H35, d220, w221, nm, seval] <;> rfl) | rfl) ?_
   rintro tm ⟨e225, e226, e227, e228, e229, e230, e231, e232, _⟩
   cases o234 : (g_sight_must (!r223) 1 c31_15) with
   | none =>
    simp only [o234, hs, reduceCtorEq] at h
    exact absurd h kN31
   | some r233 =>
    simp only [o234, hs, reduceCtorEq] at h
    cases r233 with
    | inl u235 =>
     simp only [hs, reduceCtorEq] at h
     simp only [vz, tyf, g32, n42, H33, H34, H35, d220, (ix25 o222), w221, e225, e226, e227, e228, e229, e230, e231, e232, nm, seval]
     refine ktree (args0 := [.lit (.bool (!r223)), .lit (.int .i64 1), .lit (.int .i64 c31_15)]) (by first | (simp only [nrm, tynrm] <;> rfl) | rfl) (by simp only [tre, tytre, Bool.and_self]) (g_sight_must_ok _ _ _ _ o234) ?_
     refine fin_cut (fun tm => tm 1 = .ptr 0 0 ∧ tm 2 = .ptr 1 0 ∧ tm 3 = .ptr 2 0 ∧ tm 13 = .sl (cellsL cGSightBlock x0_v.SightStreet.Blocks) (List.length x0_v.SightStreet.Blocks) false ∧ tm 14 = .lit (.int .i64 (List.length x0_v.SightStreet.Blocks : Int)) ∧ tm 15 = .lit (.int .i64 c31_15) ∧ True) (by refine ⟨e225, e226, e227, e229, e230, e231, trivial⟩ <;> first | (simp only [ua, n42, H33, H34, H35, d220, w221, e225, e226, e227, e228, e229, e230, e231, e232, nm, seval] <;> rfl) | rfl) ?_
     rintro tm ⟨e237, e238, e239, e240, e241, e242, _⟩
     simp only [vz, tyf, g32, n42, H33, H34, H35, d220, (ix25 o222), w221, e237, e238, e239, e240, e241, e242, nm, seval]
     exact ⟨List.length p31, Nat.lt_succ_self _, by rw [hI31]; refine ⟨p31, c31_15 + 1, rfl, Int.le_trans hi31 (Int.le_add_one (Int.le_refl _)), drop_next hi31 hp31, rfl, (show 10 ≤ nx31 + 15 by omega), ?_, ?_, ?_, e237, e238, e239, e240, e241, ?_, h⟩ <;> first | (simp only [ua, n42, H33, H34, H35, d220, w221, e237, e238, e239, e240, e241, e242, nm, seval] <;> rfl) | rfl⟩
    | inr w236 =>
     simp only [hs, reduceCtorEq] at h
     simp only [vz, tyf, g32, n42, H33, H34, H35, d220, (ix25 o222), w221, e225, e226, e227, e228, e229, e230, e231, e232, nm, seval]
     refine kpan (args0 := [.lit (.bool (!r223)), .lit (.int .i64 1), .lit (.int .i64 c31_15)]) (by first | (simp only [nrm, tynrm] <;> rfl) | rfl) (by simp only [tre, tytre, Bool.and_self]) (g_sight_must_ok _ _ _ _ o234) ?_
     simp only [vz, tyf, g32, n42, H33, H34, H35, d220, (ix25 o222), w221, e225, e226, e227, e228, e229, e230, e231, e232, nm, seval]
     refine opd_panicD ?_
     refine VDeferred.run mixed Tryz.call104 Tryz.func104 rfl (by kernel_rfl) ?_
     try simp only [vz, tyf, g32, n42, H33, H34, H35, d220, (ix25 o222), w221, nm, seval]
     refine dpost_normal Tryz.results104 ?_
     refine afterD_rec (x := (.tup [.agg (cGSightFault w236.SightFault), .lit (.bool true)])) (by first | (simp only [Tryz.results65, resV, resL, resV1, tgt_ptr, tgt_tp, uw, cr, tyf, g32, n42, H33, H34, H35, d220, (ix25 o222), w221, e225, e226, e227, e228, e229, e230, e231, e232, nm, seval] <;> rfl) | rfl) ?_
     replace h := kR31 _ h
     try dsimp only at h
     obtain rfl := kF _ h
     refine rr_tree ?_ ?_
     ·simp only [tre, tytre, Bool.and_self]
     ·first | (simp only [outV, uw, showV_ref, cr, tyf, nrm, tynrm, g32, n42, H33, H34, H35, d220, (ix25 o222), w221, e225, e226, e227, e228, e229, e230, e231, e232, nm, seval] <;> rfl) | rfl
end Go.V
end
section
namespace Go.V
open Go Go.Proofs
def g_sight_view_isRead (x0_v : Gsightview) : Option (Bool) := Option.bind (g_sight_view_firstFault x0_v) (fun r1 => some (!r1.2))
theorem g_sight_view_isRead_ok (x0_v : Gsightview) (R : Bool) (h : g_sight_view_isRead x0_v = some R) : VPure Tryz.prog G0 102 [.agg (cGsightview x0_v)] (.tree (.lit (.bool R))) := by
 refine VPure.runR mixed Tryz.call102 Tryz.func102 rfl (by simp [Tryz.ntmps102]; kernel_rfl) ?_
 obtain ⟨KF, h, kF, kN⟩ := fun_intro h
 simp only [g_sight_view_isRead] at h
 cases o3 : (g_sight_view_firstFault x0_v) with
 | none =>
  simp only [o3, hs, reduceCtorEq] at h
  exact absurd h kN
 | some r2 =>
  simp only [o3, hs, reduceCtorEq] at h
  simp only [vz, tyf, nm, seval]
  refine ktree (args0 := [.agg (cGsightview x0_v)]) (by first | (simp only [nrm, tynrm] <;> rfl) | rfl) (by simp only [tre, tytre, Bool.and_self]) (g_sight_view_firstFault_ok _ _ o3) ?_
  refine fin_cut (fun tm => tm 7 = .tup [.agg (cGSightFault r2.1), .lit (.bool r2.2)] ∧ True) (by refine ⟨?_, trivial⟩ <;> first | (simp only [ua, nm, seval] <;> rfl) | rfl) ?_
  rintro tm ⟨e4, _⟩
  try simp only [vz, tyf, e4, nm, seval]
  obtain rfl := kF _ h
  exact opd_bool Tryz.results102 (by first | rfl | (simp only [upd_apply, seval] <;> rfl))
end Go.V
end
section
namespace Go.V
open Go Go.Proofs
def g_sight_atBest_l0  : List GSightBlock → Int → (List GSightBlock) → Option (LOut (Gsightview) ((List GSightBlock)))
 | [], c0_13, c0_7 => some (.go c0_7)
 | e0 :: p0, c0_13, c0_7 => cond (e0.Sure) (cond (roomOk 40 (List.length (c0_7 ++ [e0]))) (g_sight_atBest_l0 p0 (c0_13 + 1) (c0_7 ++ [e0])) none) (g_sight_atBest_l0 p0 (c0_13 + 1) c0_7)
def g_sight_atBest (x0_s : GSightStreet) (x1_b : GSightBoard) (x2_from : GSightPlace) : Option (Gsightview) := cond (lenOk x0_s.Blocks) (lbind (g_sight_atBest_l0 x0_s.Blocks 0 ([] : List GSightBlock)) (fun r2 => some r2) (fun c1 => some (Gsightview.mk (GSightStreet.mk x0_s.Length x0_s.Width x0_s.Eye x0_s.Light x0_s.Boards c1) x2_from x1_b (IntKind.i64.wrap (x0_s.Eye.High * x0_s.Light.High)))) (fun _ _ => none)) none
theorem g_sight_atBest_ok (x0_s : GSightStreet) (x1_b : GSightBoard) (x2_from : GSightPlace) (R : Gsightview) (h : g_sight_atBest x0_s x1_b x2_from = some R) : VPure Tryz.prog G0 101 [.agg (cGSightStreet x0_s), .agg (cGSightBoard x1_b), .agg (cGSightPlace x2_from)] (.tree (.agg (cGsightview R))) := by
 refine VPure.runR mixed Tryz.call101 Tryz.func101 rfl (by simp [Tryz.ntmps101]; kernel_rfl) ?_
 obtain ⟨KF, h, kF, kN⟩ := fun_intro h
 simp only [g_sight_atBest] at h
 cases g4 : (lenOk x0_s.Blocks)
 ·simp only [g4, hs, reduceCtorEq] at h
  exact absurd h kN
 simp only [g4, hs, reduceCtorEq] at h
 simp only [vz, tyf, g4, nm, seval]
 obtain ⟨K3, h, kR3, kG3, kB3, kN3⟩ := lbind_intro h kN
 obtain ⟨f3, hf3, h⟩ := call3 h
 obtain ⟨I3, hI3⟩ : ∃ I : Nat → St → Prop, I = (fun m st => ∃ (p3 : List GSightBlock) (c3_13 : Int) (c3_7 : List GSightBlock) (y3_0 : VV), m = List.length p3 ∧ 0 ≤ c3_13 ∧ List.drop (Int.toNat c3_13) x0_s.Blocks = p3 ∧ st.df = [] ∧ 9 ≤ st.nx ∧ st.H 0 = some (.cells (some 27) (cGSightStreet x0_s)) ∧ st.H 1 = some (.cells (some 42) (cGSightBoard x1_b)) ∧ st.H 2 = some (.cells (some 29) (cGSightPlace x2_from)) ∧ st.H 3 = some (.cells (some 97) ([.lit (.int .i64 0)] ++ [.lit (.int .i64 0)] ++ [.lit (.int .i64 0)] ++ [.lit (.int .i64 0)] ++ [.lit (.int .i64 0)] ++ [.lit (.int .i64 0)] ++ [.lit (.slice none 0 0)] ++ [.lit (.slice none 0 0)] ++ [.lit (.int .i64 0)] ++ [.lit (.int .i64 0)] ++ [.lit (.int .i64 0)] ++ [.lit (.slice none 0 0)] ++ [.lit (.int .i64 0)])) ∧ st.tm 3 = .ptr 0 0 ∧ st.tm 4 = .ptr 1 0 ∧ st.tm 5 = .ptr 2 0 ∧ st.tm 6 = .ptr 3 0 ∧ st.tm 11 = .sl (cellsL cGSightBlock x0_s.Blocks) (List.length x0_s.Blocks) false ∧ st.tm 12 = .lit (.int .i64 (List.length x0_s.Blocks : Int)) ∧ st.tm 7 = y3_0 ∧ st.tm 13 = .lit (.int .i64 c3_13) ∧ ((∃ (β : Nat) (el : Option TypeId), y3_0 = .ref β 0 (List.length c3_7) 5 (List.length c3_7) ∧ β < st.nx ∧ β ≠ 0 ∧ β ≠ 1 ∧ β ≠ 2 ∧ β ≠ 3 ∧ st.H β = some (.cells el (cellsL cGSightBlock c3_7))) ∨ (y3_0 = .lit (.slice none 0 0) ∧ c3_7 = [])) ∧ K3 (f3 p3 c3_13 c3_7)) := ⟨_, rfl⟩
 refine loopK mixed (by kernel_rfl) I3 (List.length x0_s.Blocks) (by rw [hI3]; refine ⟨x0_s.Blocks, 0, ([] : List GSightBlock), .lit (.slice none 0 0), rfl, Int.le_refl _, rfl, rfl, (show 9 ≤ 9 by omega), ?_, ?_, ?_, ?_, ?_, ?_, ?_, ?_, ?_, ?_, ?_, ?_, Or.inr ⟨rfl, rfl⟩, h⟩ <;> first | (simp only [ua, nm, seval] <;> rfl) | rfl) ?_
 rintro m ⟨tm, H, nx3, df⟩ hinv
 rw [hI3] at hinv
 obtain ⟨p3, c3_13, c3_7, y3_0, rfl, hi3, hp3, hdf, hn3, H5, H6, H7, H8, e9, e10, e11, e12, e13, e14, e15, e16, ow3_0, h⟩ := hinv
 simp only at hdf hn3 H5 H6 H7 H8 e9 e10 e11 e12 e13 e14 e15 e16 ow3_0
 have n17 := base_ne0 (m := 9) (b := nx3) (by omega)
 subst hdf hf3
 rcases ow3_0 with ⟨b3_0, el3_0, rfl, lq19, lq20, lq21, lq22, lq23, H18⟩ | ⟨rfl, rfl⟩
 ·have q19 := own_lt lq19
  have q20 := ne_f lq20
  have q21 := ne_f lq21
  have q22 := ne_f lq22
  have q23 := ne_f lq23
  cases p3 with
  | nil =>
   have d24 : (decide (c3_13 < (List.length x0_s.Blocks : Int))) = false := not_lt_of_drop hi3 hp3
   simp only [g_sight_atBest_l0, hs, reduceCtorEq] at h
   replace h := kG3 _ h
   try dsimp only at h
   try simp only [hs] at h
   try simp only [vz, tyf, g4, n17, e9, e10, e11, e12, e13, e14, e15, e16, H5, H6, H7, H8, q19, H18, q20, q21, q22, q23, d24, nm, seval]
   refine opd_ret (x := (.agg ([.lit (.int .i64 x0_s.Length)] ++ [.lit (.int .i64 x0_s.Width)] ++ (cGSpan x0_s.Eye) ++ (cGSpan x0_s.Light) ++ [.sl (cellsL cGSightBoard x0_s.Boards) (List.length x0_s.Boards) false] ++ [.ref b3_0 0 (List.length c3_7) 5 (List.length c3_7)] ++ (cGSightPlace x2_from) ++ (cGSightBoard x1_b) ++ [.lit (.int .i64 (IntKind.i64.wrap (x0_s.Eye.High * x0_s.Light.High)))]))) (by first | (simp only [Tryz.results101, resV, resL, resV1, tgt_ptr, tgt_tp, uw, cr, tyf, g4, n17, e9, e10, e11, e12, e13, e14, e15, e16, H5, H6, H7, H8, q19, H18, q20, q21, q22, q23, d24, nm, seval] <;> rfl) | rfl) ?_
   obtain rfl := kF _ h
   refine rr_tree ?_ ?_
   ·simp only [tre, tytre, Bool.and_self]
   ·first | (simp only [outV, uw, showV_ref, cr, tyf, nrm, tynrm, g4, n17, e9, e10, e11, e12, e13, e14, e15, e16, H5, H6, H7, H8, q19, H18, q20, q21, q22, q23, d24, nm, seval] <;> rfl) | rfl
  | cons e3 p3 =>
   have d25 : (decide (c3_13 < (List.length x0_s.Blocks : Int))) = true := lt_of_drop hi3 hp3
   have o27 := getI_of_drop hi3 hp3
   have w26 := wrap_next hi3 hp3 g4
   simp only [g_sight_atBest_l0, hs, reduceCtorEq] at h
   cases d28 : (e3.Sure)
   ·simp only [d28, hs, reduceCtorEq] at h
    simp only [vz, tyf, g4, n17, e9, e10, e11, e12, e13, e14, e15, e16, H5, H6, H7, H8, q19, H18, q20, q21, q22, q23, d25, (ix25 o27), w26, d28, nm, seval]
    exact ⟨List.length p3, Nat.lt_succ_self _, by rw [hI3]; refine ⟨p3, c3_13 + 1, c3_7, .ref b3_0 0 (List.length c3_7) 5 (List.length c3_7), rfl, Int.le_trans hi3 (Int.le_add_one (Int.le_refl _)), drop_next hi3 hp3, rfl, (show 9 ≤ nx3 + 9 by omega), ?_, ?_, ?_, ?_, e9, e10, e11, e12, e13, e14, ?_, ?_, Or.inl ⟨b3_0, el3_0, rfl, (by first | omega | (simp only [nm, seval]; omega)), (by first | omega | (intro hh; simp only [n17, q19, q20, q21, q22, q23, reduceCtorEq] at hh)), (by first | omega | (intro hh; simp only [n17, q19, q20, q21, q22, q23, reduceCtorEq] at hh)), (by first | omega | (intro hh; simp only [n17, q19, q20, q21, q22, q23, reduceCtorEq] at hh)), (by first | omega | (intro hh; simp only [n17, q19, q20, q21, q22, q23, reduceCtorEq] at hh)), ?_⟩, h⟩ <;> first | (simp only [ua, n17, e9, e10, e11, e12, e13, e14, e15, e16, H5, H6, H7, H8, q19, H18, q20, q21, q22, q23, d25, w26, d28, nm, seval] <;> rfl) | rfl⟩
   simp only [d28, hs, reduceCtorEq] at h
   cases g29 : (roomOk 40 (List.length (c3_7 ++ [e3])))
   ·simp only [g29, hs, reduceCtorEq] at h
    exact absurd h kN3
   simp only [g29, hs, reduceCtorEq] at h
   simp only [vz, tyf, g4, n17, e9, e10, e11, e12, e13, e14, e15, e16, H5, H6, H7, H8, q19, H18, q20, q21, q22, q23, d25, (ix25 o27), w26, d28, g29, nm, seval]
   refine k_app (w := 5) (enc := cGSightBlock) (xs := c3_7) (ys := ([e3])) (el := el3_0) (el2 := (some 68)) (fun _ => rfl) lf25 ao25 Tryz.underlying25 (by first | rfl | assumption | (simp only [updH_apply, without_apply, et25, n17, H5, H6, H7, H8, q19, H18, q20, q21, q22, q23, nm, seval] <;> rfl) | (simp only [updH_apply, without_apply, cellsL_cons, cellsL_nil, mV_app, mV_app0, tyf, g4, n17, e9, e10, e11, e12, e13, e14, e15, e16, H5, H6, H7, H8, q19, H18, q20, q21, q22, q23, d25, (ix25 o27), w26, d28, g29, nm, seval]; done)) (by first | rfl | assumption | (simp only [updH_apply, without_apply, et25, n17, H5, H6, H7, H8, q19, H18, q20, q21, q22, q23, nm, seval] <;> rfl) | (simp only [updH_apply, without_apply, cellsL_cons, cellsL_nil, mV_app, mV_app0, tyf, g4, n17, e9, e10, e11, e12, e13, e14, e15, e16, H5, H6, H7, H8, q19, H18, q20, q21, q22, q23, d25, (ix25 o27), w26, d28, g29, nm, seval]; done)) (Nat.zero_lt_succ _) g29 ?_
   simp only [vz, tyf, g4, n17, e9, e10, e11, e12, e13, e14, e15, e16, H5, H6, H7, H8, q19, H18, q20, q21, q22, q23, d25, (ix25 o27), w26, d28, g29, nm, seval]
   exact ⟨List.length p3, Nat.lt_succ_self _, by rw [hI3]; refine ⟨p3, c3_13 + 1, (c3_7 ++ [e3]), .ref (nx3 + 10) 0 (List.length (c3_7 ++ [e3])) 5 (List.length (c3_7 ++ [e3])), rfl, Int.le_trans hi3 (Int.le_add_one (Int.le_refl _)), drop_next hi3 hp3, rfl, (show 9 ≤ nx3 + 14 by omega), ?_, ?_, ?_, ?_, e9, e10, e11, e12, e13, e14, ?_, ?_, Or.inl ⟨nx3 + 10, (sameEl el3_0 68), rfl, (by first | omega | (simp only [nm, seval]; omega)), (by first | omega | (intro hh; simp only [n17, q19, q20, q21, q22, q23, reduceCtorEq] at hh)), (by first | omega | (intro hh; simp only [n17, q19, q20, q21, q22, q23, reduceCtorEq] at hh)), (by first | omega | (intro hh; simp only [n17, q19, q20, q21, q22, q23, reduceCtorEq] at hh)), (by first | omega | (intro hh; simp only [n17, q19, q20, q21, q22, q23, reduceCtorEq] at hh)), ?_⟩, h⟩ <;> first | (simp only [ua, n17, e9, e10, e11, e12, e13, e14, e15, e16, H5, H6, H7, H8, q19, H18, q20, q21, q22, q23, d25, w26, d28, nm, seval] <;> rfl) | rfl⟩
 ·cases p3 with
  | nil =>
   have d30 : (decide (c3_13 < (List.length x0_s.Blocks : Int))) = false := not_lt_of_drop hi3 hp3
   simp only [g_sight_atBest_l0, hs, reduceCtorEq] at h
   replace h := kG3 _ h
   try dsimp only at h
   try simp only [hs] at h
   try simp only [vz, tyf, g4, n17, e9, e10, e11, e12, e13, e14, e15, e16, H5, H6, H7, H8, d30, nm, seval]
   refine opd_ret (x := (.agg ([.lit (.int .i64 x0_s.Length)] ++ [.lit (.int .i64 x0_s.Width)] ++ (cGSpan x0_s.Eye) ++ (cGSpan x0_s.Light) ++ [.sl (cellsL cGSightBoard x0_s.Boards) (List.length x0_s.Boards) false] ++ [.lit (.slice none 0 0)] ++ (cGSightPlace x2_from) ++ (cGSightBoard x1_b) ++ [.lit (.int .i64 (IntKind.i64.wrap (x0_s.Eye.High * x0_s.Light.High)))]))) (by first | (simp only [Tryz.results101, resV, resL, resV1, tgt_ptr, tgt_tp, uw, cr, tyf, g4, n17, e9, e10, e11, e12, e13, e14, e15, e16, H5, H6, H7, H8, d30, nm, seval] <;> rfl) | rfl) ?_
   obtain rfl := kF _ h
   refine rr_tree ?_ ?_
   ·simp only [tre, tytre, Bool.and_self]
   ·first | (simp only [outV, uw, showV_ref, cr, tyf, nrm, tynrm, g4, n17, e9, e10, e11, e12, e13, e14, e15, e16, H5, H6, H7, H8, d30, nm, seval] <;> rfl) | rfl
  | cons e3 p3 =>
   have d31 : (decide (c3_13 < (List.length x0_s.Blocks : Int))) = true := lt_of_drop hi3 hp3
   have o33 := getI_of_drop hi3 hp3
   have w32 := wrap_next hi3 hp3 g4
   simp only [g_sight_atBest_l0, hs, reduceCtorEq] at h
   cases d34 : (e3.Sure)
   ·simp only [d34, hs, reduceCtorEq] at h
    simp only [vz, tyf, g4, n17, e9, e10, e11, e12, e13, e14, e15, e16, H5, H6, H7, H8, d31, (ix25 o33), w32, d34, nm, seval]
    exact ⟨List.length p3, Nat.lt_succ_self _, by rw [hI3]; refine ⟨p3, c3_13 + 1, ([] : List GSightBlock), .lit (.slice none 0 0), rfl, Int.le_trans hi3 (Int.le_add_one (Int.le_refl _)), drop_next hi3 hp3, rfl, (show 9 ≤ nx3 + 9 by omega), ?_, ?_, ?_, ?_, e9, e10, e11, e12, e13, e14, ?_, ?_, Or.inr ⟨rfl, rfl⟩, h⟩ <;> first | (simp only [ua, n17, e9, e10, e11, e12, e13, e14, e15, e16, H5, H6, H7, H8, d31, w32, d34, nm, seval] <;> rfl) | rfl⟩
   simp only [d34, hs, reduceCtorEq] at h
   cases g35 : (roomOk 40 (List.length (([] : List GSightBlock) ++ [e3])))
   ·simp only [g35, hs, reduceCtorEq] at h
    exact absurd h kN3
   simp only [g35, hs, reduceCtorEq] at h
   simp only [vz, tyf, g4, n17, e9, e10, e11, e12, e13, e14, e15, e16, H5, H6, H7, H8, d31, (ix25 o33), w32, d34, g35, nm, seval]
   refine k_appN (w := 5) (enc := cGSightBlock) (ys := ([e3])) (el2 := (some 68)) (fun _ => rfl) lf25 ao25 Tryz.underlying25 (by first | rfl | assumption | (simp only [updH_apply, without_apply, et25, n17, H5, H6, H7, H8, nm, seval] <;> rfl) | (simp only [updH_apply, without_apply, cellsL_cons, cellsL_nil, mV_app, mV_app0, tyf, g4, n17, e9, e10, e11, e12, e13, e14, e15, e16, H5, H6, H7, H8, d31, (ix25 o33), w32, d34, g35, nm, seval]; done)) (Nat.zero_lt_succ _) g35 ?_
   simp only [vz, tyf, g4, n17, e9, e10, e11, e12, e13, e14, e15, e16, H5, H6, H7, H8, d31, (ix25 o33), w32, d34, g35, nm, seval]
   exact ⟨List.length p3, Nat.lt_succ_self _, by rw [hI3]; refine ⟨p3, c3_13 + 1, (([] : List GSightBlock) ++ [e3]), .ref (nx3 + 10) 0 (List.length (([] : List GSightBlock) ++ [e3])) 5 (List.length (([] : List GSightBlock) ++ [e3])), rfl, Int.le_trans hi3 (Int.le_add_one (Int.le_refl _)), drop_next hi3 hp3, rfl, (show 9 ≤ nx3 + 14 by omega), ?_, ?_, ?_, ?_, e9, e10, e11, e12, e13, e14, ?_, ?_, Or.inl ⟨nx3 + 10, (some 68), rfl, (by first | omega | (simp only [nm, seval]; omega)), (by first | omega | (intro hh; simp only [n17, reduceCtorEq] at hh)), (by first | omega | (intro hh; simp only [n17, reduceCtorEq] at hh)), (by first | omega | (intro hh; simp only [n17, reduceCtorEq] at hh)), (by first | omega | (intro hh; simp only [n17, reduceCtorEq] at hh)), ?_⟩, h⟩ <;> first | (simp only [ua, n17, e9, e10, e11, e12, e13, e14, e15, e16, H5, H6, H7, H8, d31, w32, d34, nm, seval] <;> rfl) | rfl⟩
end Go.V
end
section
namespace Go.V
open Go Go.Proofs
def g_sight_atWorst (x0_s : GSightStreet) (x1_b : GSightBoard) (x2_from : GSightPlace) : Option (Gsightview) := some (Gsightview.mk x0_s x2_from x1_b (IntKind.i64.wrap (x0_s.Eye.Low * x0_s.Light.Low)))
theorem g_sight_atWorst_ok (x0_s : GSightStreet) (x1_b : GSightBoard) (x2_from : GSightPlace) (R : Gsightview) (h : g_sight_atWorst x0_s x1_b x2_from = some R) : VPure Tryz.prog G0 64 [.agg (cGSightStreet x0_s), .agg (cGSightBoard x1_b), .agg (cGSightPlace x2_from)] (.tree (.agg (cGsightview R))) := by
 refine VPure.runR mixed Tryz.call64 Tryz.func64 rfl (by simp [Tryz.ntmps64]; kernel_rfl) ?_
 obtain ⟨KF, h, kF, kN⟩ := fun_intro h
 simp only [g_sight_atWorst] at h
 try simp only [vz, tyf, nm, seval]
 refine opd_ret (x := (.agg ((cGSightStreet x0_s) ++ (cGSightPlace x2_from) ++ (cGSightBoard x1_b) ++ [.lit (.int .i64 (IntKind.i64.wrap (x0_s.Eye.Low * x0_s.Light.Low)))]))) (by first | (simp only [Tryz.results64, resV, resL, resV1, tgt_ptr, tgt_tp, uw, cr, tyf, nm, seval] <;> rfl) | rfl) ?_
 obtain rfl := kF _ h
 refine rr_tree ?_ ?_
 ·simp only [tre, tytre, Bool.and_self]
 ·first | (simp only [outV, uw, showV_ref, cr, tyf, nrm, tynrm, nm, seval] <;> rfl) | rfl
end Go.V
end
