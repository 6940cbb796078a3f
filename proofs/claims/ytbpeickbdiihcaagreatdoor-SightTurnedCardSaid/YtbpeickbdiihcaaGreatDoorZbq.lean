/- Part of a proof: a logic of values by content, lifted functions, what follows. -/
import Derived.Test.YtbpeickbdiihcaaGreatDoorZbf
import Derived.Test.YtbpeickbdiihcaaGreatDoorZbi
import Derived.Test.YtbpeickbdiihcaaGreatDoorZbp
set_option linter.all false
set_option maxRecDepth 4000
set_option maxHeartbeats 4000000
section
namespace Go.V
open Go Go.Proofs
def g_law02_turned_l1 (x0_s : GSightStreet) : List GSightBlock → Int → (List GSightBlock) → Option (LOut (GSightStreet) ((List GSightBlock)))
 | [], c1_5, c1_o0 => some (.go c1_o0)
 | e1 :: p1, c1_5, c1_o0 => Option.bind (g_law02_span (IntKind.i64.wrap (x0_s.Length - e1.Along.High)) (IntKind.i64.wrap (x0_s.Length - e1.Along.Low))) (fun r5 => cond (roomOk 40 (List.length (c1_o0 ++ [(GSightBlock.mk r5 e1.Across e1.Sure)]))) (g_law02_turned_l1 x0_s p1 (c1_5 + 1) (c1_o0 ++ [(GSightBlock.mk r5 e1.Across e1.Sure)])) none)
def g_law02_turned_l0 (x0_s : GSightStreet) : List GSightBoard → Int → (List GSightBoard) → Option (LOut (GSightStreet) ((List GSightBoard)))
 | [], c0_4, c0_o0 => some (.go c0_o0)
 | e0 :: p0, c0_4, c0_o0 => Option.bind (g_ref02_Moved e0 (IntKind.i64.wrap (x0_s.Length - e0.At))) (fun r2 => cond (roomOk 32 (List.length (c0_o0 ++ [r2]))) (g_law02_turned_l0 x0_s p0 (c0_4 + 1) (c0_o0 ++ [r2])) none)
def g_law02_turned (x0_s : GSightStreet) : Option (GSightStreet) := cond (lenOk x0_s.Boards) (lbind (g_law02_turned_l0 x0_s x0_s.Boards 0 ([] : List GSightBoard)) (fun r8 => some r8) (fun c3 => cond (lenOk x0_s.Blocks) (lbind (g_law02_turned_l1 x0_s x0_s.Blocks 0 ([] : List GSightBlock)) (fun r7 => some r7) (fun c6 => some (GSightStreet.mk x0_s.Length x0_s.Width x0_s.Eye x0_s.Light c3 c6)) (fun _ _ => none)) none) (fun _ _ => none)) none
theorem g_law02_turned_ok (x0_s : GSightStreet) (R : GSightStreet) (h : g_law02_turned x0_s = some R) : VPure Tryz.prog G0 48 [.agg (cGSightStreet x0_s)] (.tree (.agg (cGSightStreet R))) := by
 refine VPure.runR mixed Tryz.call48 Tryz.func48 rfl (by simp [Tryz.ntmps48]; kernel_rfl) ?_
 obtain ⟨KF, h, kF, kN⟩ := fun_intro h
 simp only [g_law02_turned] at h
 cases g10 : (lenOk x0_s.Boards)
 ·simp only [g10, hs, reduceCtorEq] at h
  exact absurd h kN
 simp only [g10, hs, reduceCtorEq] at h
 simp only [vz, tyf, g10, nm, seval]
 obtain ⟨K9, h, kR9, kG9, kB9, kN9⟩ := lbind_intro h kN
 obtain ⟨f9, hf9, h⟩ := call3 h
 obtain ⟨I9, hI9⟩ : ∃ I : Nat → St → Prop, I = (fun m st => ∃ (p9 : List GSightBoard) (c9_4 : Int) (c9_o0 : List GSightBoard) (y9_0 : VV), m = List.length p9 ∧ 0 ≤ c9_4 ∧ List.drop (Int.toNat c9_4) x0_s.Boards = p9 ∧ st.df = [] ∧ 10 ≤ st.nx ∧ st.H 0 = some (.cells (some 27) (cGSightStreet x0_s)) ∧ st.H 1 = some (.cells (some 27) ([.lit (.int .i64 0)] ++ [.lit (.int .i64 0)] ++ [.lit (.int .i64 0)] ++ [.lit (.int .i64 0)] ++ [.lit (.int .i64 0)] ++ [.lit (.int .i64 0)] ++ [.lit (.slice none 0 0)] ++ [.lit (.slice none 0 0)])) ∧ st.H 3 = some (.cells (some 27) ([.lit (.int .i64 x0_s.Length)] ++ [.lit (.int .i64 x0_s.Width)] ++ (cGSpan x0_s.Eye) ++ (cGSpan x0_s.Light) ++ [y9_0] ++ [.lit (.slice none 0 0)])) ∧ st.tm 1 = .ptr 0 0 ∧ st.tm 2 = .ptr 1 0 ∧ st.tm 3 = .ptr 3 0 ∧ st.tm 4 = .lit (.int .i64 c9_4) ∧ ((∃ (β : Nat) (el : Option TypeId), y9_0 = .ref β 0 (List.length c9_o0) 2 (List.length c9_o0) ∧ β < st.nx ∧ β ≠ 0 ∧ β ≠ 1 ∧ β ≠ 3 ∧ st.H β = some (.cells el (cellsL cGSightBoard c9_o0))) ∨ (y9_0 = .lit (.slice none 0 0) ∧ c9_o0 = [])) ∧ K9 (f9 p9 c9_4 c9_o0)) := ⟨_, rfl⟩
 refine loopK mixed (by kernel_rfl) I9 (List.length x0_s.Boards) (by rw [hI9]; refine ⟨x0_s.Boards, 0, ([] : List GSightBoard), .lit (.slice none 0 0), rfl, Int.le_refl _, rfl, rfl, (show 10 ≤ 10 by omega), ?_, ?_, ?_, ?_, ?_, ?_, ?_, Or.inr ⟨rfl, rfl⟩, h⟩ <;> first | (simp only [ua, nm, seval] <;> rfl) | rfl) ?_
 rintro m ⟨tm, H, nx9, df⟩ hinv
 rw [hI9] at hinv
 obtain ⟨p9, c9_4, c9_o0, y9_0, rfl, hi9, hp9, hdf, hn9, H11, H12, H13, e14, e15, e16, e17, ow9_0, h⟩ := hinv
 simp only at hdf hn9 H11 H12 H13 e14 e15 e16 e17 ow9_0
 have n18 := base_ne0 (m := 10) (b := nx9) (by omega)
 subst hdf hf9
 rcases ow9_0 with ⟨b9_0, el9_0, rfl, lq20, lq21, lq22, lq23, H19⟩ | ⟨rfl, rfl⟩
 ·have q20 := own_lt lq20
  have q21 := ne_f lq21
  have q22 := ne_f lq22
  have q23 := ne_f lq23
  cases p9 with
  | nil =>
   have d24 : (decide (c9_4 < (List.length x0_s.Boards : Int))) = false := not_lt_of_drop hi9 hp9
   simp only [g_law02_turned_l0, hs, reduceCtorEq] at h
   replace h := kG9 _ h
   try dsimp only at h
   try simp only [hs] at h
   cases g26 : (lenOk x0_s.Blocks)
   ·simp only [g26, hs, reduceCtorEq] at h
    exact absurd h kN
   simp only [g26, hs, reduceCtorEq] at h
   simp only [vz, tyf, g10, n18, e14, e15, e16, e17, H11, H12, H13, q20, H19, q21, q22, q23, d24, g26, nm, seval]
   obtain ⟨K25, h, kR25, kG25, kB25, kN25⟩ := lbind_intro h kN
   obtain ⟨f25, hf25, h⟩ := call3 h
   obtain ⟨I25, hI25⟩ : ∃ I : Nat → St → Prop, I = (fun m st => ∃ (p25 : List GSightBlock) (c25_5 : Int) (c25_o0 : List GSightBlock) (y25_0 : VV), m = List.length p25 ∧ 0 ≤ c25_5 ∧ List.drop (Int.toNat c25_5) x0_s.Blocks = p25 ∧ st.df = [] ∧ nx9 + 6 ≤ st.nx ∧ st.H 0 = some (.cells (some 27) (cGSightStreet x0_s)) ∧ st.H 1 = some (.cells (some 27) ([.lit (.int .i64 0)] ++ [.lit (.int .i64 0)] ++ [.lit (.int .i64 0)] ++ [.lit (.int .i64 0)] ++ [.lit (.int .i64 0)] ++ [.lit (.int .i64 0)] ++ [.lit (.slice none 0 0)] ++ [.lit (.slice none 0 0)])) ∧ st.H 3 = some (.cells (some 27) ([.lit (.int .i64 x0_s.Length)] ++ [.lit (.int .i64 x0_s.Width)] ++ (cGSpan x0_s.Eye) ++ (cGSpan x0_s.Light) ++ [.ref b9_0 0 (List.length c9_o0) 2 (List.length c9_o0)] ++ [y25_0])) ∧ st.H b9_0 = some (.cells (el9_0) (cellsL cGSightBoard c9_o0)) ∧ st.tm 1 = .ptr 0 0 ∧ st.tm 2 = .ptr 1 0 ∧ st.tm 3 = .ptr 3 0 ∧ st.tm 5 = .lit (.int .i64 c25_5) ∧ ((∃ (β : Nat) (el : Option TypeId), y25_0 = .ref β 0 (List.length c25_o0) 5 (List.length c25_o0) ∧ β < st.nx ∧ β ≠ 0 ∧ β ≠ 1 ∧ β ≠ 3 ∧ β ≠ b9_0 ∧ st.H β = some (.cells el (cellsL cGSightBlock c25_o0))) ∨ (y25_0 = .lit (.slice none 0 0) ∧ c25_o0 = [])) ∧ K25 (f25 p25 c25_5 c25_o0)) := ⟨_, rfl⟩
   refine loopK mixed (by kernel_rfl) I25 (List.length x0_s.Blocks) (by rw [hI25]; refine ⟨x0_s.Blocks, 0, ([] : List GSightBlock), .lit (.slice none 0 0), rfl, Int.le_refl _, rfl, rfl, (show nx9 + 6 ≤ nx9 + 6 by omega), ?_, ?_, ?_, ?_, e14, e15, e16, ?_, Or.inr ⟨rfl, rfl⟩, h⟩ <;> first | (simp only [ua, n18, e14, e15, e16, e17, H11, H12, H13, q20, H19, q21, q22, q23, d24, nm, seval] <;> rfl) | rfl) ?_
   rintro m ⟨tm, H, nx25, df⟩ hinv
   rw [hI25] at hinv
   obtain ⟨p25, c25_5, c25_o0, y25_0, rfl, hi25, hp25, hdf, hn25, H27, H28, H29, H30, e31, e32, e33, e34, ow25_0, h⟩ := hinv
   simp only at hdf hn25 H27 H28 H29 H30 e31 e32 e33 e34 ow25_0
   have n35 := base_ne0 (m := 10) (b := nx25) (by omega)
   have n36 := base_ne (a := nx9) (m := 6) (b := nx25) (by omega)
   have n37 := own_lt (β := b9_0) (nx := nx25) (by omega)
   subst hdf hf25
   rcases ow25_0 with ⟨b25_0, el25_0, rfl, lq39, lq40, lq41, lq42, lq43, H38⟩ | ⟨rfl, rfl⟩
   ·have q39 := own_lt lq39
    have q40 := ne_f lq40
    have q41 := ne_f lq41
    have q42 := ne_f lq42
    have q43 := ne_f lq43
    cases p25 with
    | nil =>
     have d44 : (decide (c25_5 < (List.length x0_s.Blocks : Int))) = false := not_lt_of_drop hi25 hp25
     simp only [g_law02_turned_l1, hs, reduceCtorEq] at h
     replace h := kG25 _ h
     try dsimp only at h
     try simp only [hs] at h
     try simp only [vz, tyf, g10, n18, q20, q21, q22, q23, d24, g26, n35, n36, n37, e31, e32, e33, e34, H27, H28, H29, H30, q39, H38, q40, q41, q42, q43, d44, nm, seval]
     refine opd_ret (x := (.agg ([.lit (.int .i64 x0_s.Length)] ++ [.lit (.int .i64 x0_s.Width)] ++ (cGSpan x0_s.Eye) ++ (cGSpan x0_s.Light) ++ [.ref b9_0 0 (List.length c9_o0) 2 (List.length c9_o0)] ++ [.ref b25_0 0 (List.length c25_o0) 5 (List.length c25_o0)]))) (by first | (simp only [Tryz.results48, resV, resL, resV1, tgt_ptr, tgt_tp, uw, cr, tyf, g10, n18, q20, q21, q22, q23, d24, g26, n35, n36, n37, e31, e32, e33, e34, H27, H28, H29, H30, q39, H38, q40, q41, q42, q43, d44, nm, seval] <;> rfl) | rfl) ?_
     obtain rfl := kF _ h
     refine rr_tree ?_ ?_
     ·simp only [tre, tytre, Bool.and_self]
     ·first | (simp only [outV, uw, showV_ref, cr, tyf, nrm, tynrm, g10, n18, q20, q21, q22, q23, d24, g26, n35, n36, n37, e31, e32, e33, e34, H27, H28, H29, H30, q39, H38, q40, q41, q42, q43, d44, nm, seval] <;> rfl) | rfl
    | cons e25 p25 =>
     have d45 : (decide (c25_5 < (List.length x0_s.Blocks : Int))) = true := lt_of_drop hi25 hp25
     have o47 := getI_of_drop hi25 hp25
     have w46 := wrap_next hi25 hp25 g26
     simp only [g_law02_turned_l1, hs, reduceCtorEq] at h
     cases o49 : (g_law02_span (IntKind.i64.wrap (x0_s.Length - e25.Along.High)) (IntKind.i64.wrap (x0_s.Length - e25.Along.Low))) with
     | none =>
      simp only [o49, hs, reduceCtorEq] at h
      exact absurd h kN25
     | some r48 =>
      simp only [o49, hs, reduceCtorEq] at h
      simp only [vz, tyf, g10, n18, q20, q21, q22, q23, d24, g26, n35, n36, n37, e31, e32, e33, e34, H27, H28, H29, H30, q39, H38, q40, q41, q42, q43, d45, (ix25 o47), w46, nm, seval]
      refine ktree (args0 := [.lit (.int .i64 (IntKind.i64.wrap (x0_s.Length - e25.Along.High))), .lit (.int .i64 (IntKind.i64.wrap (x0_s.Length - e25.Along.Low)))]) (by first | (simp only [nrm, tynrm] <;> rfl) | rfl) (by simp only [tre, tytre, Bool.and_self]) (g_law02_span_ok _ _ _ o49) ?_
      refine fin_cut (fun tm => tm 1 = .ptr 0 0 ∧ tm 2 = .ptr 1 0 ∧ tm 3 = .ptr 3 0 ∧ tm 5 = .lit (.int .i64 c25_5) ∧ tm 6 = .ptr (nx25 + 10) 0 ∧ tm 61 = .agg (cGSpan r48) ∧ True) (by refine ⟨e31, e32, e33, e34, ?_, ?_, trivial⟩ <;> first | (simp only [ua, n18, q20, q21, q22, q23, d24, n35, n36, n37, e31, e32, e33, e34, H27, H28, H29, H30, q39, H38, q40, q41, q42, q43, d45, w46, nm, seval] <;> rfl) | rfl) ?_
      rintro tm ⟨e50, e51, e52, e53, e54, e55, _⟩
      cases g56 : (roomOk 40 (List.length (c25_o0 ++ [(GSightBlock.mk r48 e25.Across e25.Sure)])))
      ·simp only [g56, hs, reduceCtorEq] at h
       exact absurd h kN25
      simp only [g56, hs, reduceCtorEq] at h
      simp only [vz, tyf, g10, n18, q20, q21, q22, q23, d24, g26, n35, n36, n37, H27, H28, H29, H30, q39, H38, q40, q41, q42, q43, d45, (ix25 o47), w46, e50, e51, e52, e53, e54, e55, g56, nm, seval]
      refine k_app (w := 5) (enc := cGSightBlock) (xs := c25_o0) (ys := ([(GSightBlock.mk r48 e25.Across e25.Sure)])) (el := el25_0) (el2 := (some 68)) (fun _ => rfl) lf25 ao25 Tryz.underlying25 (by first | rfl | assumption | (simp only [updH_apply, without_apply, et25, n18, q20, q21, q22, q23, n35, n36, n37, H27, H28, H29, H30, q39, H38, q40, q41, q42, q43, nm, seval] <;> rfl) | (simp only [updH_apply, without_apply, cellsL_cons, cellsL_nil, mV_app, mV_app0, tyf, g10, n18, q20, q21, q22, q23, d24, g26, n35, n36, n37, H27, H28, H29, H30, q39, H38, q40, q41, q42, q43, d45, (ix25 o47), w46, e50, e51, e52, e53, e54, e55, g56, nm, seval]; done)) (by first | rfl | assumption | (simp only [updH_apply, without_apply, et25, n18, q20, q21, q22, q23, n35, n36, n37, H27, H28, H29, H30, q39, H38, q40, q41, q42, q43, nm, seval] <;> rfl) | (simp only [updH_apply, without_apply, cellsL_cons, cellsL_nil, mV_app, mV_app0, tyf, g10, n18, q20, q21, q22, q23, d24, g26, n35, n36, n37, H27, H28, H29, H30, q39, H38, q40, q41, q42, q43, d45, (ix25 o47), w46, e50, e51, e52, e53, e54, e55, g56, nm, seval]; done)) (Nat.zero_lt_succ _) g56 ?_
      simp only [vz, tyf, g10, n18, q20, q21, q22, q23, d24, g26, n35, n36, n37, H27, H28, H29, H30, q39, H38, q40, q41, q42, q43, d45, (ix25 o47), w46, e50, e51, e52, e53, e54, e55, g56, nm, seval]
      exact ⟨List.length p25, Nat.lt_succ_self _, by rw [hI25]; refine ⟨p25, c25_5 + 1, (c25_o0 ++ [(GSightBlock.mk r48 e25.Across e25.Sure)]), .ref (nx25 + 31) 0 (List.length (c25_o0 ++ [(GSightBlock.mk r48 e25.Across e25.Sure)])) 5 (List.length (c25_o0 ++ [(GSightBlock.mk r48 e25.Across e25.Sure)])), rfl, Int.le_trans hi25 (Int.le_add_one (Int.le_refl _)), drop_next hi25 hp25, rfl, (show nx9 + 6 ≤ nx25 + 37 by omega), ?_, ?_, ?_, ?_, e50, e51, e52, ?_, Or.inl ⟨nx25 + 31, (sameEl el25_0 68), rfl, (by first | omega | (simp only [nm, seval]; omega)), (by first | omega | (intro hh; simp only [n18, q20, q21, q22, q23, n35, n36, n37, q39, q40, q41, q42, q43, reduceCtorEq] at hh)), (by first | omega | (intro hh; simp only [n18, q20, q21, q22, q23, n35, n36, n37, q39, q40, q41, q42, q43, reduceCtorEq] at hh)), (by first | omega | (intro hh; simp only [n18, q20, q21, q22, q23, n35, n36, n37, q39, q40, q41, q42, q43, reduceCtorEq] at hh)), (by first | omega | (intro hh; simp only [n18, q20, q21, q22, q23, n35, n36, n37, q39, q40, q41, q42, q43, reduceCtorEq] at hh)), ?_⟩, h⟩ <;> first | (simp only [ua, n18, q20, q21, q22, q23, d24, n35, n36, n37, H27, H28, H29, H30, q39, H38, q40, q41, q42, q43, d45, w46, e50, e51, e52, e53, e54, e55, nm, seval] <;> rfl) | rfl⟩
   ·cases p25 with
    | nil =>
     have d57 : (decide (c25_5 < (List.length x0_s.Blocks : Int))) = false := not_lt_of_drop hi25 hp25
     simp only [g_law02_turned_l1, hs, reduceCtorEq] at h
     replace h := kG25 _ h
     try dsimp only at h
     try simp only [hs] at h
     try simp only [vz, tyf, g10, n18, q20, q21, q22, q23, d24, g26, n35, n36, n37, e31, e32, e33, e34, H27, H28, H29, H30, d57, nm, seval]
     refine opd_ret (x := (.agg ([.lit (.int .i64 x0_s.Length)] ++ [.lit (.int .i64 x0_s.Width)] ++ (cGSpan x0_s.Eye) ++ (cGSpan x0_s.Light) ++ [.ref b9_0 0 (List.length c9_o0) 2 (List.length c9_o0)] ++ [.lit (.slice none 0 0)]))) (by first | (simp only [Tryz.results48, resV, resL, resV1, tgt_ptr, tgt_tp, uw, cr, tyf, g10, n18, q20, q21, q22, q23, d24, g26, n35, n36, n37, e31, e32, e33, e34, H27, H28, H29, H30, d57, nm, seval] <;> rfl) | rfl) ?_
     obtain rfl := kF _ h
     refine rr_tree ?_ ?_
     ·simp only [tre, tytre, Bool.and_self]
     ·first | (simp only [outV, uw, showV_ref, cr, tyf, nrm, tynrm, g10, n18, q20, q21, q22, q23, d24, g26, n35, n36, n37, e31, e32, e33, e34, H27, H28, H29, H30, d57, nm, seval] <;> rfl) | rfl
    | cons e25 p25 =>
     have d58 : (decide (c25_5 < (List.length x0_s.Blocks : Int))) = true := lt_of_drop hi25 hp25
     have o60 := getI_of_drop hi25 hp25
     have w59 := wrap_next hi25 hp25 g26
     simp only [g_law02_turned_l1, hs, reduceCtorEq] at h
     cases o62 : (g_law02_span (IntKind.i64.wrap (x0_s.Length - e25.Along.High)) (IntKind.i64.wrap (x0_s.Length - e25.Along.Low))) with
     | none =>
      simp only [o62, hs, reduceCtorEq] at h
      exact absurd h kN25
     | some r61 =>
      simp only [o62, hs, reduceCtorEq] at h
      simp only [vz, tyf, g10, n18, q20, q21, q22, q23, d24, g26, n35, n36, n37, e31, e32, e33, e34, H27, H28, H29, H30, d58, (ix25 o60), w59, nm, seval]
      refine ktree (args0 := [.lit (.int .i64 (IntKind.i64.wrap (x0_s.Length - e25.Along.High))), .lit (.int .i64 (IntKind.i64.wrap (x0_s.Length - e25.Along.Low)))]) (by first | (simp only [nrm, tynrm] <;> rfl) | rfl) (by simp only [tre, tytre, Bool.and_self]) (g_law02_span_ok _ _ _ o62) ?_
      refine fin_cut (fun tm => tm 1 = .ptr 0 0 ∧ tm 2 = .ptr 1 0 ∧ tm 3 = .ptr 3 0 ∧ tm 5 = .lit (.int .i64 c25_5) ∧ tm 6 = .ptr (nx25 + 10) 0 ∧ tm 61 = .agg (cGSpan r61) ∧ True) (by refine ⟨e31, e32, e33, e34, ?_, ?_, trivial⟩ <;> first | (simp only [ua, n18, q20, q21, q22, q23, d24, n35, n36, n37, e31, e32, e33, e34, H27, H28, H29, H30, d58, w59, nm, seval] <;> rfl) | rfl) ?_
      rintro tm ⟨e63, e64, e65, e66, e67, e68, _⟩
      cases g69 : (roomOk 40 (List.length (([] : List GSightBlock) ++ [(GSightBlock.mk r61 e25.Across e25.Sure)])))
      ·simp only [g69, hs, reduceCtorEq] at h
       exact absurd h kN25
      simp only [g69, hs, reduceCtorEq] at h
      simp only [vz, tyf, g10, n18, q20, q21, q22, q23, d24, g26, n35, n36, n37, H27, H28, H29, H30, d58, (ix25 o60), w59, e63, e64, e65, e66, e67, e68, g69, nm, seval]
      refine k_appN (w := 5) (enc := cGSightBlock) (ys := ([(GSightBlock.mk r61 e25.Across e25.Sure)])) (el2 := (some 68)) (fun _ => rfl) lf25 ao25 Tryz.underlying25 (by first | rfl | assumption | (simp only [updH_apply, without_apply, et25, n18, q20, q21, q22, q23, n35, n36, n37, H27, H28, H29, H30, nm, seval] <;> rfl) | (simp only [updH_apply, without_apply, cellsL_cons, cellsL_nil, mV_app, mV_app0, tyf, g10, n18, q20, q21, q22, q23, d24, g26, n35, n36, n37, H27, H28, H29, H30, d58, (ix25 o60), w59, e63, e64, e65, e66, e67, e68, g69, nm, seval]; done)) (Nat.zero_lt_succ _) g69 ?_
      simp only [vz, tyf, g10, n18, q20, q21, q22, q23, d24, g26, n35, n36, n37, H27, H28, H29, H30, d58, (ix25 o60), w59, e63, e64, e65, e66, e67, e68, g69, nm, seval]
      exact ⟨List.length p25, Nat.lt_succ_self _, by rw [hI25]; refine ⟨p25, c25_5 + 1, (([] : List GSightBlock) ++ [(GSightBlock.mk r61 e25.Across e25.Sure)]), .ref (nx25 + 31) 0 (List.length (([] : List GSightBlock) ++ [(GSightBlock.mk r61 e25.Across e25.Sure)])) 5 (List.length (([] : List GSightBlock) ++ [(GSightBlock.mk r61 e25.Across e25.Sure)])), rfl, Int.le_trans hi25 (Int.le_add_one (Int.le_refl _)), drop_next hi25 hp25, rfl, (show nx9 + 6 ≤ nx25 + 37 by omega), ?_, ?_, ?_, ?_, e63, e64, e65, ?_, Or.inl ⟨nx25 + 31, (some 68), rfl, (by first | omega | (simp only [nm, seval]; omega)), (by first | omega | (intro hh; simp only [n18, q20, q21, q22, q23, n35, n36, n37, reduceCtorEq] at hh)), (by first | omega | (intro hh; simp only [n18, q20, q21, q22, q23, n35, n36, n37, reduceCtorEq] at hh)), (by first | omega | (intro hh; simp only [n18, q20, q21, q22, q23, n35, n36, n37, reduceCtorEq] at hh)), (by first | omega | (intro hh; simp only [n18, q20, q21, q22, q23, n35, n36, n37, reduceCtorEq] at hh)), ?_⟩, h⟩ <;> first | (simp only [ua, n18, q20, q21, q22, q23, d24, n35, n36, n37, H27, H28, H29, H30, d58, w59, e63, e64, e65, e66, e67, e68, nm, seval] <;> rfl) | rfl⟩
  | cons e9 p9 =>
   have d70 : (decide (c9_4 < (List.length x0_s.Boards : Int))) = true := lt_of_drop hi9 hp9
   have o72 := getI_of_drop hi9 hp9
   have w71 := wrap_next hi9 hp9 g10
   simp only [g_law02_turned_l0, hs, reduceCtorEq] at h
   simp only [vz, tyf, g10, n18, e14, e15, e16, e17, H11, H12, H13, q20, H19, q21, q22, q23, d70, (ix24 o72), w71, nm, seval]
   refine cwp_drawTF (fun tm => tm 1 = .ptr 0 0 ∧ tm 2 = .ptr 1 0 ∧ tm 3 = .ptr 3 0 ∧ tm 4 = .lit (.int .i64 c9_4) ∧ True) (by refine ⟨e14, e15, e16, e17, trivial⟩ <;> first | (simp only [ua, n18, e14, e15, e16, e17, H11, H12, H13, q20, H19, q21, q22, q23, d70, w71, nm, seval] <;> rfl) | rfl) ?_
   rintro tm ⟨e73, e74, e75, e76, _⟩
   cases o78 : (g_ref02_Moved e9 (IntKind.i64.wrap (x0_s.Length - e9.At))) with
   | none =>
    simp only [o78, hs, reduceCtorEq] at h
    exact absurd h kN9
   | some r77 =>
    simp only [o78, hs, reduceCtorEq] at h
    simp only [vz, tyf, g10, n18, H11, H12, H13, q20, H19, q21, q22, q23, d70, (ix24 o72), w71, e73, e74, e75, e76, nm, seval]
    refine dktree (args0 := [.agg (cGSightBoard e9), .lit (.int .i64 (IntKind.i64.wrap (x0_s.Length - e9.At)))]) (by first | (simp only [nrm, tynrm] <;> rfl) | rfl) (by simp only [tre, tytre, Bool.and_self]) (g_ref02_Moved_ok _ _ _ o78) ?_
    refine fin_cut (fun tm => tm 1 = .ptr 0 0 ∧ tm 2 = .ptr 1 0 ∧ tm 3 = .ptr 3 0 ∧ tm 4 = .lit (.int .i64 c9_4) ∧ tm 18 = .ref b9_0 0 (List.length c9_o0) 2 (List.length c9_o0) ∧ tm 33 = .agg (cGSightBoard r77) ∧ True) (by refine ⟨e73, e74, e75, e76, ?_, ?_, trivial⟩ <;> first | (simp only [ua, n18, H11, H12, H13, q20, H19, q21, q22, q23, d70, w71, e73, e74, e75, e76, nm, seval] <;> rfl) | rfl) ?_
    rintro tm ⟨e79, e80, e81, e82, e83, e84, _⟩
    cases g85 : (roomOk 32 (List.length (c9_o0 ++ [r77])))
    ·simp only [g85, hs, reduceCtorEq] at h
     exact absurd h kN9
    simp only [g85, hs, reduceCtorEq] at h
    simp only [vz, tyf, g10, n18, H11, H12, H13, q20, H19, q21, q22, q23, d70, (ix24 o72), w71, e79, e80, e81, e82, e83, e84, g85, nm, seval]
    refine k_app (w := 2) (enc := cGSightBoard) (xs := c9_o0) (ys := ([r77])) (el := el9_0) (el2 := (some 42)) (fun _ => rfl) lf24 ao24 Tryz.underlying24 (by first | rfl | assumption | (simp only [updH_apply, without_apply, et24, n18, H11, H12, H13, q20, H19, q21, q22, q23, nm, seval] <;> rfl) | (simp only [updH_apply, without_apply, cellsL_cons, cellsL_nil, mV_app, mV_app0, tyf, g10, n18, H11, H12, H13, q20, H19, q21, q22, q23, d70, (ix24 o72), w71, e79, e80, e81, e82, e83, e84, g85, nm, seval]; done)) (by first | rfl | assumption | (simp only [updH_apply, without_apply, et24, n18, H11, H12, H13, q20, H19, q21, q22, q23, nm, seval] <;> rfl) | (simp only [updH_apply, without_apply, cellsL_cons, cellsL_nil, mV_app, mV_app0, tyf, g10, n18, H11, H12, H13, q20, H19, q21, q22, q23, d70, (ix24 o72), w71, e79, e80, e81, e82, e83, e84, g85, nm, seval]; done)) (Nat.zero_lt_succ _) g85 ?_
    simp only [vz, tyf, g10, n18, H11, H12, H13, q20, H19, q21, q22, q23, d70, (ix24 o72), w71, e79, e80, e81, e82, e83, e84, g85, nm, seval]
    refine drawK_nil ⟨?_, ?_⟩
    ·simp only [traceR_cons, traceR_nil, hitK_quiet, hitK_nil, and_true, true_and]
     repeat' (first | exact trivial | refine And.intro ?_ ?_ | rw [hitK_quiet] | rw [hitK_cons] | exact Or.inl (by decide +kernel) | exact Or.inl (by dsimp only; decide +kernel) | (refine Or.inr ⟨?_, ?_⟩ <;> simp; done) | (refine Or.inr ⟨?_, ?_⟩ <;> simp <;> omega))
    simp only [vz, tyf, g10, n18, H11, H12, H13, q20, H19, q21, q22, q23, d70, (ix24 o72), w71, e79, e80, e81, e82, e83, e84, g85, nm, seval]
    exact ⟨List.length p9, Nat.lt_succ_self _, by rw [hI9]; refine ⟨p9, c9_4 + 1, (c9_o0 ++ [r77]), .ref (nx9 + 23) 0 (List.length (c9_o0 ++ [r77])) 2 (List.length (c9_o0 ++ [r77])), rfl, Int.le_trans hi9 (Int.le_add_one (Int.le_refl _)), drop_next hi9 hp9, rfl, (show 10 ≤ nx9 + 29 by omega), ?_, ?_, ?_, e79, e80, e81, ?_, Or.inl ⟨nx9 + 23, (sameEl el9_0 42), rfl, (by first | omega | (simp only [nm, seval]; omega)), (by first | omega | (intro hh; simp only [n18, q20, q21, q22, q23, reduceCtorEq] at hh)), (by first | omega | (intro hh; simp only [n18, q20, q21, q22, q23, reduceCtorEq] at hh)), (by first | omega | (intro hh; simp only [n18, q20, q21, q22, q23, reduceCtorEq] at hh)), ?_⟩, h⟩ <;> first | (simp only [ua, n18, H11, H12, H13, q20, H19, q21, q22, q23, d70, w71, e79, e80, e81, e82, e83, e84, nm, seval] <;> rfl) | rfl⟩
 ·cases p9 with
  | nil =>
   have d86 : (decide (c9_4 < (List.length x0_s.Boards : Int))) = false := not_lt_of_drop hi9 hp9
   simp only [g_law02_turned_l0, hs, reduceCtorEq] at h
   replace h := kG9 _ h
   try dsimp only at h
   try simp only [hs] at h
   cases g88 : (lenOk x0_s.Blocks)
   ·simp only [g88, hs, reduceCtorEq] at h
    exact absurd h kN
   simp only [g88, hs, reduceCtorEq] at h
   simp only [vz, tyf, g10, n18, e14, e15, e16, e17, H11, H12, H13, d86, g88, nm, seval]
   obtain ⟨K87, h, kR87, kG87, kB87, kN87⟩ := lbind_intro h kN
   obtain ⟨f87, hf87, h⟩ := call3 h
   obtain ⟨I87, hI87⟩ : ∃ I : Nat → St → Prop, I = (fun m st => ∃ (p87 : List GSightBlock) (c87_5 : Int) (c87_o0 : List GSightBlock) (y87_0 : VV), m = List.length p87 ∧ 0 ≤ c87_5 ∧ List.drop (Int.toNat c87_5) x0_s.Blocks = p87 ∧ st.df = [] ∧ nx9 + 6 ≤ st.nx ∧ st.H 0 = some (.cells (some 27) (cGSightStreet x0_s)) ∧ st.H 1 = some (.cells (some 27) ([.lit (.int .i64 0)] ++ [.lit (.int .i64 0)] ++ [.lit (.int .i64 0)] ++ [.lit (.int .i64 0)] ++ [.lit (.int .i64 0)] ++ [.lit (.int .i64 0)] ++ [.lit (.slice none 0 0)] ++ [.lit (.slice none 0 0)])) ∧ st.H 3 = some (.cells (some 27) ([.lit (.int .i64 x0_s.Length)] ++ [.lit (.int .i64 x0_s.Width)] ++ (cGSpan x0_s.Eye) ++ (cGSpan x0_s.Light) ++ [.lit (.slice none 0 0)] ++ [y87_0])) ∧ st.tm 1 = .ptr 0 0 ∧ st.tm 2 = .ptr 1 0 ∧ st.tm 3 = .ptr 3 0 ∧ st.tm 5 = .lit (.int .i64 c87_5) ∧ ((∃ (β : Nat) (el : Option TypeId), y87_0 = .ref β 0 (List.length c87_o0) 5 (List.length c87_o0) ∧ β < st.nx ∧ β ≠ 0 ∧ β ≠ 1 ∧ β ≠ 3 ∧ st.H β = some (.cells el (cellsL cGSightBlock c87_o0))) ∨ (y87_0 = .lit (.slice none 0 0) ∧ c87_o0 = [])) ∧ K87 (f87 p87 c87_5 c87_o0)) := ⟨_, rfl⟩
   refine loopK mixed (by kernel_rfl) I87 (List.length x0_s.Blocks) (by rw [hI87]; refine ⟨x0_s.Blocks, 0, ([] : List GSightBlock), .lit (.slice none 0 0), rfl, Int.le_refl _, rfl, rfl, (show nx9 + 6 ≤ nx9 + 6 by omega), ?_, ?_, ?_, e14, e15, e16, ?_, Or.inr ⟨rfl, rfl⟩, h⟩ <;> first | (simp only [ua, n18, e14, e15, e16, e17, H11, H12, H13, d86, nm, seval] <;> rfl) | rfl) ?_
   rintro m ⟨tm, H, nx87, df⟩ hinv
   rw [hI87] at hinv
   obtain ⟨p87, c87_5, c87_o0, y87_0, rfl, hi87, hp87, hdf, hn87, H89, H90, H91, e92, e93, e94, e95, ow87_0, h⟩ := hinv
   simp only at hdf hn87 H89 H90 H91 e92 e93 e94 e95 ow87_0
   have n96 := base_ne0 (m := 10) (b := nx87) (by omega)
   have n97 := base_ne (a := nx9) (m := 6) (b := nx87) (by omega)
   subst hdf hf87
   rcases ow87_0 with ⟨b87_0, el87_0, rfl, lq99, lq100, lq101, lq102, H98⟩ | ⟨rfl, rfl⟩
   ·have q99 := own_lt lq99
    have q100 := ne_f lq100
    have q101 := ne_f lq101
    have q102 := ne_f lq102
    cases p87 with
    | nil =>
     have d103 : (decide (c87_5 < (List.length x0_s.Blocks : Int))) = false := not_lt_of_drop hi87 hp87
     simp only [g_law02_turned_l1, hs, reduceCtorEq] at h
     replace h := kG87 _ h
     try dsimp only at h
     try simp only [hs] at h
     try simp only [vz, tyf, g10, n18, d86, g88, n96, n97, e92, e93, e94, e95, H89, H90, H91, q99, H98, q100, q101, q102, d103, nm, seval]
     refine opd_ret (x := (.agg ([.lit (.int .i64 x0_s.Length)] ++ [.lit (.int .i64 x0_s.Width)] ++ (cGSpan x0_s.Eye) ++ (cGSpan x0_s.Light) ++ [.lit (.slice none 0 0)] ++ [.ref b87_0 0 (List.length c87_o0) 5 (List.length c87_o0)]))) (by first | (simp only [Tryz.results48, resV, resL, resV1, tgt_ptr, tgt_tp, uw, cr, tyf, g10, n18, d86, g88, n96, n97, e92, e93, e94, e95, H89, H90, H91, q99, H98, q100, q101, q102, d103, nm, seval] <;> rfl) | rfl) ?_
     obtain rfl := kF _ h
     refine rr_tree ?_ ?_
     ·simp only [tre, tytre, Bool.and_self]
     ·first | (simp only [outV, uw, showV_ref, cr, tyf, nrm, tynrm, g10, n18, d86, g88, n96, n97, e92, e93, e94, e95, H89, H90, H91, q99, H98, q100, q101, q102, d103, nm, seval] <;> rfl) | rfl
    | cons e87 p87 =>
     have d104 : (decide (c87_5 < (List.length x0_s.Blocks : Int))) = true := lt_of_drop hi87 hp87
     have o106 := getI_of_drop hi87 hp87
     have w105 := wrap_next hi87 hp87 g88
     simp only [g_law02_turned_l1, hs, reduceCtorEq] at h
     cases o108 : (g_law02_span (IntKind.i64.wrap (x0_s.Length - e87.Along.High)) (IntKind.i64.wrap (x0_s.Length - e87.Along.Low))) with
     | none =>
      simp only [o108, hs, reduceCtorEq] at h
      exact absurd h kN87
     | some r107 =>
      simp only [o108, hs, reduceCtorEq] at h
      simp only [vz, tyf, g10, n18, d86, g88, n96, n97, e92, e93, e94, e95, H89, H90, H91, q99, H98, q100, q101, q102, d104, (ix25 o106), w105, nm, seval]
      refine ktree (args0 := [.lit (.int .i64 (IntKind.i64.wrap (x0_s.Length - e87.Along.High))), .lit (.int .i64 (IntKind.i64.wrap (x0_s.Length - e87.Along.Low)))]) (by first | (simp only [nrm, tynrm] <;> rfl) | rfl) (by simp only [tre, tytre, Bool.and_self]) (g_law02_span_ok _ _ _ o108) ?_
      refine fin_cut (fun tm => tm 1 = .ptr 0 0 ∧ tm 2 = .ptr 1 0 ∧ tm 3 = .ptr 3 0 ∧ tm 5 = .lit (.int .i64 c87_5) ∧ tm 6 = .ptr (nx87 + 10) 0 ∧ tm 61 = .agg (cGSpan r107) ∧ True) (by refine ⟨e92, e93, e94, e95, ?_, ?_, trivial⟩ <;> first | (simp only [ua, n18, d86, n96, n97, e92, e93, e94, e95, H89, H90, H91, q99, H98, q100, q101, q102, d104, w105, nm, seval] <;> rfl) | rfl) ?_
      rintro tm ⟨e109, e110, e111, e112, e113, e114, _⟩
      cases g115 : (roomOk 40 (List.length (c87_o0 ++ [(GSightBlock.mk r107 e87.Across e87.Sure)])))
      ·simp only [g115, hs, reduceCtorEq] at h
       exact absurd h kN87
      simp only [g115, hs, reduceCtorEq] at h
      simp only [vz, tyf, g10, n18, d86, g88, n96, n97, H89, H90, H91, q99, H98, q100, q101, q102, d104, (ix25 o106), w105, e109, e110, e111, e112, e113, e114, g115, nm, seval]
      refine k_app (w := 5) (enc := cGSightBlock) (xs := c87_o0) (ys := ([(GSightBlock.mk r107 e87.Across e87.Sure)])) (el := el87_0) (el2 := (some 68)) (fun _ => rfl) lf25 ao25 Tryz.underlying25 (by first | rfl | assumption | (simp only [updH_apply, without_apply, et25, n18, n96, n97, H89, H90, H91, q99, H98, q100, q101, q102, nm, seval] <;> rfl) | (simp only [updH_apply, without_apply, cellsL_cons, cellsL_nil, mV_app, mV_app0, tyf, g10, n18, d86, g88, n96, n97, H89, H90, H91, q99, H98, q100, q101, q102, d104, (ix25 o106), w105, e109, e110, e111, e112, e113, e114, g115, nm, seval]; done)) (by first | rfl | assumption | (simp only [updH_apply, without_apply, et25, n18, n96, n97, H89, H90, H91, q99, H98, q100, q101, q102, nm, seval] <;> rfl) | (simp only [updH_apply, without_apply, cellsL_cons, cellsL_nil, mV_app, mV_app0, tyf, g10, n18, d86, g88, n96, n97, H89, H90, H91, q99, H98, q100, q101, q102, d104, (ix25 o106), w105, e109, e110, e111, e112, e113, e114, g115, nm, seval]; done)) (Nat.zero_lt_succ _) g115 ?_
      simp only [vz, tyf, g10, n18, d86, g88, n96, n97, H89, H90, H91, q99, H98, q100, q101, q102, d104, (ix25 o106), w105, e109, e110, e111, e112, e113, e114, g115, nm, seval]
      exact ⟨List.length p87, Nat.lt_succ_self _, by rw [hI87]; refine ⟨p87, c87_5 + 1, (c87_o0 ++ [(GSightBlock.mk r107 e87.Across e87.Sure)]), .ref (nx87 + 31) 0 (List.length (c87_o0 ++ [(GSightBlock.mk r107 e87.Across e87.Sure)])) 5 (List.length (c87_o0 ++ [(GSightBlock.mk r107 e87.Across e87.Sure)])), rfl, Int.le_trans hi87 (Int.le_add_one (Int.le_refl _)), drop_next hi87 hp87, rfl, (show nx9 + 6 ≤ nx87 + 37 by omega), ?_, ?_, ?_, e109, e110, e111, ?_, Or.inl ⟨nx87 + 31, (sameEl el87_0 68), rfl, (by first | omega | (simp only [nm, seval]; omega)), (by first | omega | (intro hh; simp only [n18, n96, n97, q99, q100, q101, q102, reduceCtorEq] at hh)), (by first | omega | (intro hh; simp only [n18, n96, n97, q99, q100, q101, q102, reduceCtorEq] at hh)), (by first | omega | (intro hh; simp only [n18, n96, n97, q99, q100, q101, q102, reduceCtorEq] at hh)), ?_⟩, h⟩ <;> first | (simp only [ua, n18, d86, n96, n97, H89, H90, H91, q99, H98, q100, q101, q102, d104, w105, e109, e110, e111, e112, e113, e114, nm, seval] <;> rfl) | rfl⟩
   ·cases p87 with
    | nil =>
     have d116 : (decide (c87_5 < (List.length x0_s.Blocks : Int))) = false := not_lt_of_drop hi87 hp87
     simp only [g_law02_turned_l1, hs, reduceCtorEq] at h
     replace h := kG87 _ h
     try dsimp only at h
     try simp only [hs] at h
     try simp only [vz, tyf, g10, n18, d86, g88, n96, n97, e92, e93, e94, e95, H89, H90, H91, d116, nm, seval]
     refine opd_ret (x := (.agg ([.lit (.int .i64 x0_s.Length)] ++ [.lit (.int .i64 x0_s.Width)] ++ (cGSpan x0_s.Eye) ++ (cGSpan x0_s.Light) ++ [.lit (.slice none 0 0)] ++ [.lit (.slice none 0 0)]))) (by first | (simp only [Tryz.results48, resV, resL, resV1, tgt_ptr, tgt_tp, uw, cr, tyf, g10, n18, d86, g88, n96, n97, e92, e93, e94, e95, H89, H90, H91, d116, nm, seval] <;> rfl) | rfl) ?_
     obtain rfl := kF _ h
     refine rr_tree ?_ ?_
     ·simp only [tre, tytre, Bool.and_self]
     ·first | (simp only [outV, uw, showV_ref, cr, tyf, nrm, tynrm, g10, n18, d86, g88, n96, n97, e92, e93, e94, e95, H89, H90, H91, d116, nm, seval] <;> rfl) | rfl
    | cons e87 p87 =>
     have d117 : (decide (c87_5 < (List.length x0_s.Blocks : Int))) = true := lt_of_drop hi87 hp87
     have o119 := getI_of_drop hi87 hp87
     have w118 := wrap_next hi87 hp87 g88
     simp only [g_law02_turned_l1, hs, reduceCtorEq] at h
     cases o121 : (g_law02_span (IntKind.i64.wrap (x0_s.Length - e87.Along.High)) (IntKind.i64.wrap (x0_s.Length - e87.Along.Low))) with
     | none =>
      simp only [o121, hs, reduceCtorEq] at h
      exact absurd h kN87
     | some r120 =>
      simp only [o121, hs, reduceCtorEq] at h
      simp only [vz, tyf, g10, n18, d86, g88, n96, n97, e92, e93, e94, e95, H89, H90, H91, d117, (ix25 o119), w118, nm, seval]
      refine ktree (args0 := [.lit (.int .i64 (IntKind.i64.wrap (x0_s.Length - e87.Along.High))), .lit (.int .i64 (IntKind.i64.wrap (x0_s.Length - e87.Along.Low)))]) (by first | (simp only [nrm, tynrm] <;> rfl) | rfl) (by simp only [tre, tytre, Bool.and_self]) (g_law02_span_ok _ _ _ o121) ?_
      refine fin_cut (fun tm => tm 1 = .ptr 0 0 ∧ tm 2 = .ptr 1 0 ∧ tm 3 = .ptr 3 0 ∧ tm 5 = .lit (.int .i64 c87_5) ∧ tm 6 = .ptr (nx87 + 10) 0 ∧ tm 61 = .agg (cGSpan r120) ∧ True) (by refine ⟨e92, e93, e94, e95, ?_, ?_, trivial⟩ <;> first | (simp only [ua, n18, d86, n96, n97, e92, e93, e94, e95, H89, H90, H91, d117, w118, nm, seval] <;> rfl) | rfl) ?_
      rintro tm ⟨e122, e123, e124, e125, e126, e127, _⟩
      cases g128 : (roomOk 40 (List.length (([] : List GSightBlock) ++ [(GSightBlock.mk r120 e87.Across e87.Sure)])))
      ·simp only [g128, hs, reduceCtorEq] at h
       exact absurd h kN87
      simp only [g128, hs, reduceCtorEq] at h
      simp only [vz, tyf, g10, n18, d86, g88, n96, n97, H89, H90, H91, d117, (ix25 o119), w118, e122, e123, e124, e125, e126, e127, g128, nm, seval]
      refine k_appN (w := 5) (enc := cGSightBlock) (ys := ([(GSightBlock.mk r120 e87.Across e87.Sure)])) (el2 := (some 68)) (fun _ => rfl) lf25 ao25 Tryz.underlying25 (by first | rfl | assumption | (simp only [updH_apply, without_apply, et25, n18, n96, n97, H89, H90, H91, nm, seval] <;> rfl) | (simp only [updH_apply, without_apply, cellsL_cons, cellsL_nil, mV_app, mV_app0, tyf, g10, n18, d86, g88, n96, n97, H89, H90, H91, d117, (ix25 o119), w118, e122, e123, e124, e125, e126, e127, g128, nm, seval]; done)) (Nat.zero_lt_succ _) g128 ?_
      simp only [vz, tyf, g10, n18, d86, g88, n96, n97, H89, H90, H91, d117, (ix25 o119), w118, e122, e123, e124, e125, e126, e127, g128, nm, seval]
      exact ⟨List.length p87, Nat.lt_succ_self _, by rw [hI87]; refine ⟨p87, c87_5 + 1, (([] : List GSightBlock) ++ [(GSightBlock.mk r120 e87.Across e87.Sure)]), .ref (nx87 + 31) 0 (List.length (([] : List GSightBlock) ++ [(GSightBlock.mk r120 e87.Across e87.Sure)])) 5 (List.length (([] : List GSightBlock) ++ [(GSightBlock.mk r120 e87.Across e87.Sure)])), rfl, Int.le_trans hi87 (Int.le_add_one (Int.le_refl _)), drop_next hi87 hp87, rfl, (show nx9 + 6 ≤ nx87 + 37 by omega), ?_, ?_, ?_, e122, e123, e124, ?_, Or.inl ⟨nx87 + 31, (some 68), rfl, (by first | omega | (simp only [nm, seval]; omega)), (by first | omega | (intro hh; simp only [n18, n96, n97, reduceCtorEq] at hh)), (by first | omega | (intro hh; simp only [n18, n96, n97, reduceCtorEq] at hh)), (by first | omega | (intro hh; simp only [n18, n96, n97, reduceCtorEq] at hh)), ?_⟩, h⟩ <;> first | (simp only [ua, n18, d86, n96, n97, H89, H90, H91, d117, w118, e122, e123, e124, e125, e126, e127, nm, seval] <;> rfl) | rfl⟩
  | cons e9 p9 =>
   have d129 : (decide (c9_4 < (List.length x0_s.Boards : Int))) = true := lt_of_drop hi9 hp9
   have o131 := getI_of_drop hi9 hp9
   have w130 := wrap_next hi9 hp9 g10
   simp only [g_law02_turned_l0, hs, reduceCtorEq] at h
   simp only [vz, tyf, g10, n18, e14, e15, e16, e17, H11, H12, H13, d129, (ix24 o131), w130, nm, seval]
   refine cwp_drawTF (fun tm => tm 1 = .ptr 0 0 ∧ tm 2 = .ptr 1 0 ∧ tm 3 = .ptr 3 0 ∧ tm 4 = .lit (.int .i64 c9_4) ∧ True) (by refine ⟨e14, e15, e16, e17, trivial⟩ <;> first | (simp only [ua, n18, e14, e15, e16, e17, H11, H12, H13, d129, w130, nm, seval] <;> rfl) | rfl) ?_
   rintro tm ⟨e132, e133, e134, e135, _⟩
   cases o137 : (g_ref02_Moved e9 (IntKind.i64.wrap (x0_s.Length - e9.At))) with
   | none =>
    simp only [o137, hs, reduceCtorEq] at h
    exact absurd h kN9
   | some r136 =>
    simp only [o137, hs, reduceCtorEq] at h
    simp only [vz, tyf, g10, n18, H11, H12, H13, d129, (ix24 o131), w130, e132, e133, e134, e135, nm, seval]
    refine dktree (args0 := [.agg (cGSightBoard e9), .lit (.int .i64 (IntKind.i64.wrap (x0_s.Length - e9.At)))]) (by first | (simp only [nrm, tynrm] <;> rfl) | rfl) (by simp only [tre, tytre, Bool.and_self]) (g_ref02_Moved_ok _ _ _ o137) ?_
    refine fin_cut (fun tm => tm 1 = .ptr 0 0 ∧ tm 2 = .ptr 1 0 ∧ tm 3 = .ptr 3 0 ∧ tm 4 = .lit (.int .i64 c9_4) ∧ tm 18 = .lit (.slice none 0 0) ∧ tm 33 = .agg (cGSightBoard r136) ∧ True) (by refine ⟨e132, e133, e134, e135, ?_, ?_, trivial⟩ <;> first | (simp only [ua, n18, H11, H12, H13, d129, w130, e132, e133, e134, e135, nm, seval] <;> rfl) | rfl) ?_
    rintro tm ⟨e138, e139, e140, e141, e142, e143, _⟩
    cases g144 : (roomOk 32 (List.length (([] : List GSightBoard) ++ [r136])))
    ·simp only [g144, hs, reduceCtorEq] at h
     exact absurd h kN9
    simp only [g144, hs, reduceCtorEq] at h
    simp only [vz, tyf, g10, n18, H11, H12, H13, d129, (ix24 o131), w130, e138, e139, e140, e141, e142, e143, g144, nm, seval]
    refine k_appN (w := 2) (enc := cGSightBoard) (ys := ([r136])) (el2 := (some 42)) (fun _ => rfl) lf24 ao24 Tryz.underlying24 (by first | rfl | assumption | (simp only [updH_apply, without_apply, et24, n18, H11, H12, H13, nm, seval] <;> rfl) | (simp only [updH_apply, without_apply, cellsL_cons, cellsL_nil, mV_app, mV_app0, tyf, g10, n18, H11, H12, H13, d129, (ix24 o131), w130, e138, e139, e140, e141, e142, e143, g144, nm, seval]; done)) (Nat.zero_lt_succ _) g144 ?_
    simp only [vz, tyf, g10, n18, H11, H12, H13, d129, (ix24 o131), w130, e138, e139, e140, e141, e142, e143, g144, nm, seval]
    refine drawK_nil ⟨?_, ?_⟩
    ·simp only [traceR_cons, traceR_nil, hitK_quiet, hitK_nil, and_true, true_and]
     repeat' (first | exact trivial | refine And.intro ?_ ?_ | rw [hitK_quiet] | rw [hitK_cons] | exact Or.inl (by decide +kernel) | exact Or.inl (by dsimp only; decide +kernel) | (refine Or.inr ⟨?_, ?_⟩ <;> simp; done) | (refine Or.inr ⟨?_, ?_⟩ <;> simp <;> omega))
    simp only [vz, tyf, g10, n18, H11, H12, H13, d129, (ix24 o131), w130, e138, e139, e140, e141, e142, e143, g144, nm, seval]
    exact ⟨List.length p9, Nat.lt_succ_self _, by rw [hI9]; refine ⟨p9, c9_4 + 1, (([] : List GSightBoard) ++ [r136]), .ref (nx9 + 23) 0 (List.length (([] : List GSightBoard) ++ [r136])) 2 (List.length (([] : List GSightBoard) ++ [r136])), rfl, Int.le_trans hi9 (Int.le_add_one (Int.le_refl _)), drop_next hi9 hp9, rfl, (show 10 ≤ nx9 + 29 by omega), ?_, ?_, ?_, e138, e139, e140, ?_, Or.inl ⟨nx9 + 23, (some 42), rfl, (by first | omega | (simp only [nm, seval]; omega)), (by first | omega | (intro hh; simp only [n18, reduceCtorEq] at hh)), (by first | omega | (intro hh; simp only [n18, reduceCtorEq] at hh)), (by first | omega | (intro hh; simp only [n18, reduceCtorEq] at hh)), ?_⟩, h⟩ <;> first | (simp only [ua, n18, H11, H12, H13, d129, w130, e138, e139, e140, e141, e142, e143, nm, seval] <;> rfl) | rfl⟩
end Go.V
end
