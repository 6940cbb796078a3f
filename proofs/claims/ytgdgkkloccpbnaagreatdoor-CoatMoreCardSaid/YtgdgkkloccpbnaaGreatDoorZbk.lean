/- Part of a proof: a logic of values by content, lifted functions, what follows. -/
import Derived.Test.YtgdgkkloccpbnaaGreatDoorZbf
import Derived.Test.YtgdgkkloccpbnaaGreatDoorZbh
import Derived.Test.YtgdgkkloccpbnaaGreatDoorZbj
import Derived.Test.YtgdgkkloccpbnaaGreatDoorZbi
set_option linter.all false
set_option maxRecDepth 4000
set_option maxHeartbeats 40000000
section
namespace Go.V
open Go Go.Proofs
def g_slices_Clone_Int (xs : List Int) : Option (List Int) := cond (neB xs) (cond (roomOk 8 xs.length) (some xs) none) none
theorem g_slices_Clone_Int_ok (xs R : List Int) (h : g_slices_Clone_Int xs = some R) : VPure Tryz.prog G0 119 [.sl (cellsL eI xs) xs.length false] (.own (cellsL eI R) R.length 1) := by
 unfold g_slices_Clone_Int at h
 cases hn : neB xs with
 | false => rw [hn] at h; cases h
 | true =>
 cases hr : roomOk 8 xs.length with
 | false => rw [hn, hr] at h; cases h
 | true =>
 rw [hn, hr] at h
 simp only [cond_true, Option.some.injEq] at h
 subst h
 have hc : cellsL eI xs ≠ [] := by
  cases xs with
  | nil => cases hn
  | cons a l => intro hh; cases hh
 have hnil : ∀ (H : Nat → Option VObj) (x y : Operand), binV Tryz.prog H .eql 23 x y (.sl (cellsL eI xs) xs.length false) (.lit (.slice none 0 0)) = some (.lit (.bool false)) := fun H x y => binV_slNil Tryz.underlying23 hc
 have hb : vbuildSlice Tryz.prog 23 0 [] = some ([], 1) := by kernel_rfl
 refine VPure.run mixed Tryz.call119 Tryz.func119 rfl (by simp [Tryz.ntmps119]; kernel_rfl) ?_
 simp only [vz, tyf, hnil, hb, List.map_nil, seval]
 refine k_appS (w := 1) (enc := eI) (xs := ([] : List Int)) (ys := xs) (el := some 3) (fun _ => rfl) lf23 ao23 Tryz.underlying23 rfl hn (by rw [List.nil_append]; exact hr) ?_
 simp only [vz, tyf, List.nil_append, seval]
 refine ⟨rfl, .ref 5 0 xs.length 1 xs.length, by simp [Tryz.results119, resV, resL, resV1, upd], (cellsL eI xs).length + 1, 5, _, cellsL eI xs, ⟨_, rfl⟩, by simp only [updH_apply, without_apply, seval] <;> rfl, seal_tree _ _ (eI_ok.treeL xs) (Nat.lt_succ_self _)⟩
end Go.V
end
section
namespace Go.V
open Go Go.Proofs
def g_coat_sums_least (x0_x : Gcoatsums) (x1_from : Int) (x2_to : Int) : Option (Int) := Option.bind (getI x0_x.lows x2_to) (fun x1 => Option.bind (getI x0_x.lows x1_from) (fun x2 => some (IntKind.i64.wrap (x1 - x2))))
theorem g_coat_sums_least_ok (x0_x : Gcoatsums) (x1_from : Int) (x2_to : Int) (R : Int) (h : g_coat_sums_least x0_x x1_from x2_to = some R) : VPure Tryz.prog G0 121 [.agg (cGcoatsums x0_x), .lit (.int .i64 x1_from), .lit (.int .i64 x2_to)] (.tree (.lit (.int .i64 R))) := by
 refine VPure.runR mixed Tryz.call121 Tryz.func121 rfl (by simp [Tryz.ntmps121]; kernel_rfl) ?_
 obtain ⟨KF, h, kF, kN⟩ := fun_intro h
 simp only [g_coat_sums_least] at h
 simp only [vz, tyf, nm, seval]
 refine cwp_drwQF (fun tm => tm 1 = .lit (.int .i64 x1_from) ∧ tm 2 = .lit (.int .i64 x2_to) ∧ tm 3 = .ptr 0 0 ∧ True) (by refine ⟨?_, ?_, ?_, trivial⟩ <;> first | (simp only [ua, nm, seval] <;> rfl) | rfl) ?_
 rintro tm ⟨e3, e4, e5, _⟩
 rcases o7 : (getI x0_x.lows x2_to) with _ | x6
 ·simp only [o7, hs] at h
  exact absurd h kN
 simp only [o7, hs] at h
 rcases o9 : (getI x0_x.lows x1_from) with _ | x8
 ·simp only [o9, hs] at h
  exact absurd h kN
 simp only [o9, hs] at h
 try simp only [vz, tyf, e3, e4, e5, (ix23 o7), (ix23 o9), nm, seval]
 refine opd_ret (x := (.lit (.int .i64 (IntKind.i64.wrap (x6 - x8))))) (by first | (simp only [Tryz.results121, resV, resL, resV1, tgt_ptr, tgt_tp, uw, cr, tyf, (ix23 o7), (ix23 o9), nm, seval] <;> rfl) | rfl) ?_
 obtain rfl := kF _ h
 refine rr_tree ?_ ?_
 ·simp only [tre, tytre, Bool.and_self]
 ·first | (simp only [outV, uw, showV_ref, cr, tyf, nrm, tynrm, e3, e4, e5, (ix23 o7), (ix23 o9), nm, seval] <;> rfl) | rfl
end Go.V
end
section
namespace Go.V
open Go Go.Proofs
def g_coat_sums_greatest (x0_x : Gcoatsums) (x1_from : Int) (x2_to : Int) : Option (Int) := Option.bind (getI x0_x.highs x2_to) (fun x1 => Option.bind (getI x0_x.highs x1_from) (fun x2 => some (IntKind.i64.wrap (x1 - x2))))
theorem g_coat_sums_greatest_ok (x0_x : Gcoatsums) (x1_from : Int) (x2_to : Int) (R : Int) (h : g_coat_sums_greatest x0_x x1_from x2_to = some R) : VPure Tryz.prog G0 112 [.agg (cGcoatsums x0_x), .lit (.int .i64 x1_from), .lit (.int .i64 x2_to)] (.tree (.lit (.int .i64 R))) := by
 refine VPure.runR mixed Tryz.call112 Tryz.func112 rfl (by simp [Tryz.ntmps112]; kernel_rfl) ?_
 obtain ⟨KF, h, kF, kN⟩ := fun_intro h
 simp only [g_coat_sums_greatest] at h
 simp only [vz, tyf, nm, seval]
 refine cwp_drwQF (fun tm => tm 1 = .lit (.int .i64 x1_from) ∧ tm 2 = .lit (.int .i64 x2_to) ∧ tm 3 = .ptr 0 0 ∧ True) (by refine ⟨?_, ?_, ?_, trivial⟩ <;> first | (simp only [ua, nm, seval] <;> rfl) | rfl) ?_
 rintro tm ⟨e3, e4, e5, _⟩
 rcases o7 : (getI x0_x.highs x2_to) with _ | x6
 ·simp only [o7, hs] at h
  exact absurd h kN
 simp only [o7, hs] at h
 rcases o9 : (getI x0_x.highs x1_from) with _ | x8
 ·simp only [o9, hs] at h
  exact absurd h kN
 simp only [o9, hs] at h
 try simp only [vz, tyf, e3, e4, e5, (ix23 o7), (ix23 o9), nm, seval]
 refine opd_ret (x := (.lit (.int .i64 (IntKind.i64.wrap (x6 - x8))))) (by first | (simp only [Tryz.results112, resV, resL, resV1, tgt_ptr, tgt_tp, uw, cr, tyf, (ix23 o7), (ix23 o9), nm, seval] <;> rfl) | rfl) ?_
 obtain rfl := kF _ h
 refine rr_tree ?_ ?_
 ·simp only [tre, tytre, Bool.and_self]
 ·first | (simp only [outV, uw, showV_ref, cr, tyf, nrm, tynrm, e3, e4, e5, (ix23 o7), (ix23 o9), nm, seval] <;> rfl) | rfl
end Go.V
end
section
namespace Go.V
open Go Go.Proofs
def g_coat_sums_isLast (x0_x : Gcoatsums) (x1_coat : Int) : Option (Bool) := some (x1_coat == (IntKind.i64.wrap ((List.length x0_x.CoatSheet.Coats : Int) - 1)))
theorem g_coat_sums_isLast_ok (x0_x : Gcoatsums) (x1_coat : Int) (R : Bool) (h : g_coat_sums_isLast x0_x x1_coat = some R) : VPure Tryz.prog G0 157 [.agg (cGcoatsums x0_x), .lit (.int .i64 x1_coat)] (.tree (.lit (.bool R))) := by
 refine VPure.runR mixed Tryz.call157 Tryz.func157 rfl (by simp [Tryz.ntmps157]; kernel_rfl) ?_
 obtain ⟨KF, h, kF, kN⟩ := fun_intro h
 simp only [g_coat_sums_isLast] at h
 try simp only [vz, tyf, nm, seval]
 obtain rfl := kF _ h
 exact opd_bool Tryz.results157 rfl
end Go.V
end
section
namespace Go.V
open Go Go.Proofs
def g_coat_firstFailure_worst_l0 (x0_x : Gcoatsums) (r1 : List Int) : List Int → Int → Option (LOut (Gcoatfailure × Bool) (Unit))
 | [], c0_21 => some (.go ())
 | e0 :: p0, c0_21 => Option.bind (getI (r1 ++ [(List.length x0_x.CoatSheet.Dry : Int)]) c0_21) (fun x2 => Option.bind (getI (r1 ++ [(List.length x0_x.CoatSheet.Dry : Int)]) (c0_21 + 1)) (fun x3 => Option.bind (g_coat_sums_least x0_x x2 x3) (fun r4 => Option.bind (getI x0_x.CoatSheet.Coats c0_21) (fun x5 => cond (decide (r4 < x5.Need)) (some (.ret ((Gcoatfailure.mk c0_21 1), true))) (Option.bind (g_coat_sums_isLast x0_x c0_21) (fun r6 => cond (r6) (g_coat_firstFailure_worst_l0 x0_x r1 p0 (c0_21 + 1)) (Option.bind (g_coat_sums_greatest x0_x x2 x3) (fun r7 => cond (decide (r7 > x5.Peel)) (some (.ret ((Gcoatfailure.mk c0_21 2), true))) (g_coat_firstFailure_worst_l0 x0_x r1 p0 (c0_21 + 1))))))))))
def g_coat_firstFailure_worst (x0_x : Gcoatsums) (x2_plan : List Int) : Option (Gcoatfailure × Bool) := Option.bind (g_slices_Clone_Int x2_plan) (fun r1 => cond (roomOk 8 (List.length (r1 ++ [(List.length x0_x.CoatSheet.Dry : Int)]))) (cond (lenOk x2_plan) (lbind (g_coat_firstFailure_worst_l0 x0_x r1 x2_plan 0) (fun r9 => some r9) (fun c8 => some ((Gcoatfailure.mk 0 0), false)) (fun _ _ => none)) none) none)
theorem g_coat_firstFailure_worst_ok (x0_x : Gcoatsums) (x2_plan : List Int) (R : Gcoatfailure × Bool) (h : g_coat_firstFailure_worst x0_x x2_plan = some R) : VPure Tryz.prog G0 82 [.agg (cGcoatsums x0_x), .agg ([VV.lit Value.nilFunc] ++ [VV.fn (Fn.func 121) [.agg (cGcoatsums x0_x)] []] ++ [VV.fn (Fn.func 112) [.agg (cGcoatsums x0_x)] []]), .sl (cellsL eI x2_plan) (List.length x2_plan) false] (.tree (.tup [.agg (cGcoatfailure R.1), .lit (.bool R.2)])) := by
 refine VPure.runR mixed Tryz.call82 Tryz.func82 rfl (by simp [Tryz.ntmps82]; kernel_rfl) ?_
 obtain ⟨KF, h, kF, kN⟩ := fun_intro h
 simp only [g_coat_firstFailure_worst] at h
 simp only [vz, tyf, nm, seval]
 refine cwp_drawTF (fun tm => tm 2 = .sl (cellsL eI x2_plan) (List.length x2_plan) false ∧ tm 3 = .ptr 0 0 ∧ tm 4 = .ptr 1 0 ∧ tm 6 = .ptr 2 0 ∧ tm 7 = .ptr 3 0 ∧ True) (by refine ⟨?_, ?_, ?_, ?_, ?_, trivial⟩ <;> first | (simp only [ua, nm, seval] <;> rfl) | rfl) ?_
 rintro tm ⟨e10, e11, e12, e13, e14, _⟩
 rcases o16 : (g_slices_Clone_Int x2_plan) with _ | r15
 ·simp only [o16, hs] at h
  exact absurd h kN
 simp only [o16, hs] at h
 simp only [vz, tyf, e10, e11, e12, e13, e14, nm, seval]
 refine dkown (args0 := [.sl (cellsL eI x2_plan) (List.length x2_plan) false]) (by first | (simp only [nrm, tynrm] <;> rfl) | rfl) (by simp only [tre, tytre, Bool.and_self]) (g_slices_Clone_Int_ok _ _ o16) ?_
 cases g17 : (roomOk 8 (List.length (r15 ++ [(List.length x0_x.CoatSheet.Dry : Int)])))
 ·simp only [g17, hs] at h
  exact absurd h kN
 simp only [g17, hs] at h
 simp only [vz, tyf, e10, e11, e12, e13, e14, g17, nm, seval]
 refine k_app (w := 1) (enc := eI) (xs := r15) (ys := ([(List.length x0_x.CoatSheet.Dry : Int)])) (el := none) (el2 := (some 3)) (fun _ => rfl) lf23 ao23 Tryz.underlying23 (by first | rfl | assumption | (simp only [updH_apply, without_apply, et23, nm, seval] <;> rfl) | (simp only [updH_apply, without_apply, cellsL_cons, cellsL_nil, mV_app, mV_app0, tyf, e10, e11, e12, e13, e14, g17, nm, seval]; done)) (by first | rfl | assumption | (simp only [updH_apply, without_apply, et23, nm, seval] <;> rfl) | (simp only [updH_apply, without_apply, cellsL_cons, cellsL_nil, mV_app, mV_app0, tyf, e10, e11, e12, e13, e14, g17, nm, seval]; done)) (Nat.zero_lt_succ _) g17 ?_
 simp only [vz, tyf, e10, e11, e12, e13, e14, g17, nm, seval]
 refine drawK_nil ⟨?_, ?_⟩
 ·simp only [traceR_cons, traceR_nil, hitK_quiet, hitK_nil, and_true, true_and]
  repeat' (first | exact trivial | refine And.intro ?_ ?_ | rw [hitK_quiet] | rw [hitK_cons] | exact Or.inl (by decide +kernel) | exact Or.inl (by dsimp only; decide +kernel) | (refine Or.inr ⟨?_, ?_⟩ <;> simp; done) | (refine Or.inr ⟨?_, ?_⟩ <;> simp <;> omega) | (refine Or.inr ⟨?_, ?_⟩ <;> simp [VEff.wr] <;> omega))
 cases g19 : (lenOk x2_plan)
 ·simp only [g19, hs] at h
  exact absurd h kN
 simp only [g19, hs] at h
 simp only [vz, tyf, e10, e11, e12, e13, e14, g17, g19, nm, seval]
 obtain ⟨K18, h, kR18, kG18, kB18, kN18⟩ := lbind_intro h kN
 obtain ⟨f18, hf18, h⟩ := call2 h
 obtain ⟨I18, hI18⟩ : ∃ I : Nat → St → Prop, I = (fun m st => ∃ (p18 : List Int) (c18_21 : Int), m = List.length p18 ∧ 0 ≤ c18_21 ∧ List.drop (Int.toNat c18_21) x2_plan = p18 ∧ st.df = [.fn (.func 118) [.ptr 2 0, .ptr 3 0] []] ∧ 18 ≤ st.nx ∧ st.H 0 = some (.cells (some 81) (cGcoatsums x0_x)) ∧ st.H 1 = some (.cells (some 99) ([VV.lit Value.nilFunc] ++ [VV.fn (Fn.func 121) [.agg (cGcoatsums x0_x)] []] ++ [VV.fn (Fn.func 112) [.agg (cGcoatsums x0_x)] []])) ∧ st.H 2 = some (.cells (some 94) ([.lit (.int .i64 0)] ++ [.lit (.int .i64 0)])) ∧ st.H 3 = some (.cells (some 4) ([.lit (.bool false)])) ∧ st.H 13 = some (.cells ((sameEl none 3)) (cellsL eI (r15 ++ [(List.length x0_x.CoatSheet.Dry : Int)]))) ∧ st.tm 3 = .ptr 0 0 ∧ st.tm 4 = .ptr 1 0 ∧ st.tm 6 = .ptr 2 0 ∧ st.tm 7 = .ptr 3 0 ∧ st.tm 8 = .ref 13 0 (List.length (r15 ++ [(List.length x0_x.CoatSheet.Dry : Int)])) 1 (List.length (r15 ++ [(List.length x0_x.CoatSheet.Dry : Int)])) ∧ st.tm 20 = .lit (.int .i64 (List.length x2_plan : Int)) ∧ st.tm 21 = .lit (.int .i64 c18_21) ∧ K18 (f18 p18 c18_21)) := ⟨_, rfl⟩
 refine loopK mixed (by kernel_rfl) I18 (List.length x2_plan) (by rw [hI18]; refine ⟨x2_plan, 0, rfl, Int.le_refl _, rfl, rfl, (show 18 ≤ 18 by omega), ?_, ?_, ?_, ?_, ?_, e11, e12, e13, e14, ?_, ?_, ?_, h⟩ <;> first | (simp only [ua, e10, e11, e12, e13, e14, nm, seval] <;> rfl) | rfl) ?_
 rintro m ⟨tm, H, nx18, df⟩ hinv
 rw [hI18] at hinv
 obtain ⟨p18, c18_21, rfl, hi18, hp18, hdf, hn18, H20, H21, H22, H23, H24, e25, e26, e27, e28, e29, e30, e31, h⟩ := hinv
 simp only at hdf hn18 H20 H21 H22 H23 H24 e25 e26 e27 e28 e29 e30 e31
 have n32 := base_ne0 (m := 18) (b := nx18) (by omega)
 subst hdf hf18
 cases p18 with
 | nil =>
  have d33 : (decide (c18_21 < (List.length x2_plan : Int))) = false := not_lt_of_drop hi18 hp18
  simp only [g_coat_firstFailure_worst_l0, hs, reduceCtorEq] at h
  replace h := kG18 _ h
  try dsimp only at h
  try simp only [hs] at h
  try simp only [vz, tyf, g17, g19, n32, e25, e26, e27, e28, e29, e30, e31, H20, H21, H22, H23, H24, d33, nm, seval]
  refine opd_retD ?_
  refine VDeferred.run mixed Tryz.call118 Tryz.func118 rfl (by kernel_rfl) ?_
  try simp only [vz, tyf, g17, g19, n32, H20, H21, H22, H23, H24, d33, nm, seval]
  refine dpost_normal Tryz.results118 ?_
  refine afterD_ret (x := (.tup [.agg ([.lit (.int .i64 0)] ++ [.lit (.int .i64 0)]), .lit (.bool false)])) (by first | (simp only [Tryz.results82, resV, resL, resV1, tgt_ptr, tgt_tp, uw, cr, tyf, g17, g19, n32, H20, H21, H22, H23, H24, d33, e25, e26, e27, e28, e29, e30, e31, nm, seval] <;> rfl) | rfl) ?_
  obtain rfl := kF _ h
  refine rr_tree ?_ ?_
  ·simp only [tre, tytre, Bool.and_self]
  ·first | (simp only [outV, uw, showV_ref, cr, tyf, nrm, tynrm, g17, g19, n32, H20, H21, H22, H23, H24, d33, e25, e26, e27, e28, e29, e30, e31, nm, seval] <;> rfl) | rfl
 | cons e18 p18 =>
  have d34 : (decide (c18_21 < (List.length x2_plan : Int))) = true := lt_of_drop hi18 hp18
  have o36 := getI_of_drop hi18 hp18
  have w35 := wrap_next hi18 hp18 g19
  simp only [g_coat_firstFailure_worst_l0, hs, reduceCtorEq] at h
  simp only [vz, tyf, g17, g19, n32, e25, e26, e27, e28, e29, e30, e31, H20, H21, H22, H23, H24, d34, (ix23 o36), w35, nm, seval]
  refine cwp_cutF (fun tm => tm 3 = .ptr 0 0 ∧ tm 4 = .ptr 1 0 ∧ tm 6 = .ptr 2 0 ∧ tm 7 = .ptr 3 0 ∧ tm 8 = .ref 13 0 (List.length (r15 ++ [(List.length x0_x.CoatSheet.Dry : Int)])) 1 (List.length (r15 ++ [(List.length x0_x.CoatSheet.Dry : Int)])) ∧ tm 9 = .lit (.int .i64 c18_21) ∧ tm 20 = .lit (.int .i64 (List.length x2_plan : Int)) ∧ tm 21 = .lit (.int .i64 c18_21) ∧ True) (by refine ⟨e25, e26, e27, e28, e29, ?_, e30, e31, trivial⟩ <;> first | (simp only [ua, n32, e25, e26, e27, e28, e29, e30, e31, H20, H21, H22, H23, H24, d34, w35, nm, seval] <;> rfl) | rfl) ?_
  rintro tm ⟨e37, e38, e39, e40, e41, e42, e43, e44, _⟩
  have b45 := And.intro g17 (And.intro g19 (And.intro n32 (And.intro H20 (And.intro H21 (And.intro H22 (And.intro H23 (And.intro H24 (And.intro d34 w35))))))))
  refine cwp_drawS mixed 12 rfl rfl rfl (by kernel_rfl) ?_
  rcases o47 : (getI (r15 ++ [(List.length x0_x.CoatSheet.Dry : Int)]) c18_21) with _ | x46
  ·simp only [o47, hs] at h
   exact absurd h kN18
  simp only [o47, hs] at h
  rcases o49 : (getI (r15 ++ [(List.length x0_x.CoatSheet.Dry : Int)]) (c18_21 + 1)) with _ | x48
  ·simp only [o49, hs] at h
   exact absurd h kN18
  simp only [o49, hs] at h
  try simp only [vz, tyf, b45, (ix23 o36), e37, e38, e39, e40, e41, e42, e43, e44, (ixo23 o47), (ixo23 o49), nm, seval]
  refine kopen ?_
  rw [openK_eq]
  refine VOpen.run mixed Tryz.call120 Tryz.func120 rfl (by simp [Tryz.ntmps120]; kernel_rfl) ?_
  try simp only [vz, tyf, b45, (ix23 o36), (ixo23 o47), (ixo23 o49), nm, seval]
  refine kopen ?_
  rw [openK_eq]
  refine VOpen.run mixed Tryz.call135 Tryz.func135 rfl (by simp [Tryz.ntmps135]; kernel_rfl) ?_
  simp only [vz, tyf, b45, (ix23 o36), (ixo23 o47), (ixo23 o49), nm, seval]
  refine cwp_drwQF (fun tm => tm 2 = .lit (.int .i64 c18_21) ∧ tm 3 = .lit (.int .i64 x46) ∧ tm 4 = .lit (.int .i64 x48) ∧ tm 5 = .ptr (nx18 + 25) 0 ∧ tm 6 = .ptr (nx18 + 26) 0 ∧ True) (by refine ⟨?_, ?_, ?_, ?_, ?_, trivial⟩ <;> first | (simp only [ua, b45, nm, seval] <;> rfl) | rfl) ?_
  rintro tm ⟨e50, e51, e52, e53, e54, _⟩
  rcases o56 : (g_coat_sums_least x0_x x46 x48) with _ | r55
  ·simp only [o56, hs] at h
   exact absurd h kN18
  simp only [o56, hs] at h
  simp only [vz, tyf, b45, (ix23 o36), (ixo23 o47), (ixo23 o49), e50, e51, e52, e53, e54, nm, seval]
  refine dktree (args0 := [.agg (cGcoatsums x0_x), .lit (.int .i64 x46), .lit (.int .i64 x48)]) (by first | (simp only [nrm, tynrm] <;> rfl) | rfl) (by simp only [tre, tytre, Bool.and_self]) (g_coat_sums_least_ok _ _ _ _ o56) ?_
  refine fin_cut (fun tm => tm 2 = .lit (.int .i64 c18_21) ∧ tm 3 = .lit (.int .i64 x46) ∧ tm 4 = .lit (.int .i64 x48) ∧ tm 5 = .ptr (nx18 + 25) 0 ∧ tm 6 = .ptr (nx18 + 26) 0 ∧ tm 16 = .lit (.int .i64 r55) ∧ True) (by refine ⟨e50, e51, e52, e53, e54, ?_, trivial⟩ <;> first | (simp only [ua, b45, e50, e51, e52, e53, e54, nm, seval] <;> rfl) | rfl) ?_
  rintro tm ⟨e57, e58, e59, e60, e61, e62, _⟩
  rcases o64 : (getI x0_x.CoatSheet.Coats c18_21) with _ | x63
  ·simp only [o64, hs] at h
   exact absurd h kN18
  simp only [o64, hs] at h
  cases d65 : (decide (r55 < x63.Need))
  ·simp only [d65, hs] at h
   simp only [vz, tyf, b45, (ix23 o36), (ixo23 o47), (ixo23 o49), e57, e58, e59, e60, e61, e62, (ix24 o64), d65, nm, seval]
   refine cwp_drwQF (fun tm => tm 2 = .lit (.int .i64 c18_21) ∧ tm 3 = .lit (.int .i64 x46) ∧ tm 4 = .lit (.int .i64 x48) ∧ tm 5 = .ptr (nx18 + 25) 0 ∧ tm 6 = .ptr (nx18 + 26) 0 ∧ True) (by refine ⟨e57, e58, e59, e60, e61, trivial⟩ <;> first | (simp only [ua, b45, e57, e58, e59, e60, e61, e62, d65, nm, seval] <;> rfl) | rfl) ?_
   rintro tm ⟨e66, e67, e68, e69, e70, _⟩
   rcases o72 : (g_coat_sums_isLast x0_x c18_21) with _ | r71
   ·simp only [o72, hs] at h
    exact absurd h kN18
   simp only [o72, hs] at h
   simp only [vz, tyf, b45, (ix23 o36), (ixo23 o47), (ixo23 o49), (ix24 o64), d65, e66, e67, e68, e69, e70, nm, seval]
   refine dktree (args0 := [.agg (cGcoatsums x0_x), .lit (.int .i64 c18_21)]) (by first | (simp only [nrm, tynrm] <;> rfl) | rfl) (by simp only [tre, tytre, Bool.and_self]) (g_coat_sums_isLast_ok _ _ _ o72) ?_
   refine fin_cut (fun tm => tm 2 = .lit (.int .i64 c18_21) ∧ tm 3 = .lit (.int .i64 x46) ∧ tm 4 = .lit (.int .i64 x48) ∧ tm 5 = .ptr (nx18 + 25) 0 ∧ tm 6 = .ptr (nx18 + 26) 0 ∧ tm 28 = .lit (.bool r71) ∧ True) (by refine ⟨e66, e67, e68, e69, e70, ?_, trivial⟩ <;> first | (simp only [ua, b45, d65, e66, e67, e68, e69, e70, nm, seval] <;> rfl) | rfl) ?_
   rintro tm ⟨e73, e74, e75, e76, e77, e78, _⟩
   cases d79 : (r71)
   ·simp only [d79, hs] at h
    rcases o81 : (g_coat_sums_greatest x0_x x46 x48) with _ | r80
    ·simp only [o81, hs] at h
     exact absurd h kN18
    simp only [o81, hs] at h
    simp only [vz, tyf, b45, (ix23 o36), (ixo23 o47), (ixo23 o49), (ix24 o64), d65, e73, e74, e75, e76, e77, e78, d79, nm, seval]
    refine dktree (args0 := [.agg (cGcoatsums x0_x), .lit (.int .i64 x46), .lit (.int .i64 x48)]) (by first | (simp only [nrm, tynrm] <;> rfl) | rfl) (by simp only [tre, tytre, Bool.and_self]) (g_coat_sums_greatest_ok _ _ _ _ o81) ?_
    refine fin_cut (fun tm => tm 2 = .lit (.int .i64 c18_21) ∧ tm 5 = .ptr (nx18 + 25) 0 ∧ tm 30 = .lit (.bool true) ∧ tm 35 = .lit (.int .i64 r80) ∧ True) (by refine ⟨e73, e76, ?_, ?_, trivial⟩ <;> first | (simp only [ua, b45, d65, e73, e74, e75, e76, e77, e78, d79, nm, seval] <;> rfl) | rfl) ?_
    rintro tm ⟨e82, e83, e84, e85, _⟩
    cases d86 : (decide (r80 > x63.Peel))
    ·simp only [d86, hs] at h
     try simp only [vz, tyf, b45, (ix23 o36), (ixo23 o47), (ixo23 o49), (ix24 o64), d65, d79, e82, e83, e84, e85, d86, nm, seval]
     refine opd_ret (x := (.lit (.int .i64 0))) (by first | (simp only [Tryz.results135, resV, resL, resV1, tgt_ptr, tgt_tp, uw, cr, tyf, b45, (ix23 o36), (ixo23 o47), (ixo23 o49), (ix24 o64), d65, d79, d86, nm, seval] <;> rfl) | rfl) ?_
     try simp only [vz, tyf, b45, (ix23 o36), (ixo23 o47), (ixo23 o49), (ix24 o64), d65, d79, d86, nm, seval]
     refine opd_normal (x := (.tup [])) (by first | (simp only [Tryz.results120, resV, resL, resV1, tgt_ptr, tgt_tp, uw, cr, tyf, b45, (ix23 o36), (ixo23 o47), (ixo23 o49), (ix24 o64), d65, d79, d86, nm, seval] <;> rfl) | rfl) ?_
     simp only [vz, tyf, b45, (ix23 o36), (ixo23 o47), (ixo23 o49), (ix24 o64), d65, d79, d86, e37, e38, e39, e40, e41, e42, e43, e44, nm, seval]
     exact ⟨List.length p18, Nat.lt_succ_self _, by rw [hI18]; refine ⟨p18, c18_21 + 1, rfl, Int.le_trans hi18 (Int.le_add_one (Int.le_refl _)), drop_next hi18 hp18, rfl, (show 18 ≤ nx18 + 67 by omega), ?_, ?_, ?_, ?_, ?_, e37, e38, e39, e40, e41, e43, ?_, h⟩ <;> first | (simp only [ua, b45, d65, d79, d86, e37, e38, e39, e40, e41, e42, e43, e44, nm, seval] <;> rfl) | rfl⟩
    simp only [d86, hs] at h
    try simp only [vz, tyf, b45, (ix23 o36), (ixo23 o47), (ixo23 o49), (ix24 o64), d65, d79, e82, e83, e84, e85, d86, nm, seval]
    refine opd_ret (x := (.lit (.int .i64 2))) (by first | (simp only [Tryz.results135, resV, resL, resV1, tgt_ptr, tgt_tp, uw, cr, tyf, b45, (ix23 o36), (ixo23 o47), (ixo23 o49), (ix24 o64), d65, d79, d86, nm, seval] <;> rfl) | rfl) ?_
    simp only [vz, tyf, b45, (ix23 o36), (ixo23 o47), (ixo23 o49), (ix24 o64), d65, d79, d86, nm, seval]
    refine opd_panic ?_
    try simp only [vz, tyf, b45, (ix23 o36), (ixo23 o47), (ixo23 o49), (ix24 o64), d65, d79, d86, e37, e38, e39, e40, e41, e42, e43, e44, nm, seval]
    refine opd_panicD ?_
    refine VDeferred.run mixed Tryz.call118 Tryz.func118 rfl (by kernel_rfl) ?_
    try simp only [vz, tyf, b45, (ix23 o36), (ixo23 o47), (ixo23 o49), (ix24 o64), d65, d79, d86, nm, seval]
    refine dpost_normal Tryz.results118 ?_
    refine afterD_rec (x := (.tup [.agg ([.lit (.int .i64 c18_21)] ++ [.lit (.int .i64 2)]), .lit (.bool true)])) (by first | (simp only [Tryz.results82, resV, resL, resV1, tgt_ptr, tgt_tp, uw, cr, tyf, b45, (ix23 o36), (ixo23 o47), (ixo23 o49), (ix24 o64), d65, d79, d86, e37, e38, e39, e40, e41, e42, e43, e44, nm, seval] <;> rfl) | rfl) ?_
    replace h := kR18 _ h
    try dsimp only at h
    obtain rfl := kF _ h
    refine rr_tree ?_ ?_
    ·simp only [tre, tytre, Bool.and_self]
    ·first | (simp only [outV, uw, showV_ref, cr, tyf, nrm, tynrm, b45, (ix23 o36), (ixo23 o47), (ixo23 o49), (ix24 o64), d65, d79, d86, e37, e38, e39, e40, e41, e42, e43, e44, nm, seval] <;> rfl) | rfl
   simp only [d79, hs] at h
   try simp only [vz, tyf, b45, (ix23 o36), (ixo23 o47), (ixo23 o49), (ix24 o64), d65, e73, e74, e75, e76, e77, e78, d79, nm, seval]
   refine opd_ret (x := (.lit (.int .i64 0))) (by first | (simp only [Tryz.results135, resV, resL, resV1, tgt_ptr, tgt_tp, uw, cr, tyf, b45, (ix23 o36), (ixo23 o47), (ixo23 o49), (ix24 o64), d65, d79, nm, seval] <;> rfl) | rfl) ?_
   try simp only [vz, tyf, b45, (ix23 o36), (ixo23 o47), (ixo23 o49), (ix24 o64), d65, d79, nm, seval]
   refine opd_normal (x := (.tup [])) (by first | (simp only [Tryz.results120, resV, resL, resV1, tgt_ptr, tgt_tp, uw, cr, tyf, b45, (ix23 o36), (ixo23 o47), (ixo23 o49), (ix24 o64), d65, d79, nm, seval] <;> rfl) | rfl) ?_
   simp only [vz, tyf, b45, (ix23 o36), (ixo23 o47), (ixo23 o49), (ix24 o64), d65, d79, e37, e38, e39, e40, e41, e42, e43, e44, nm, seval]
   exact ⟨List.length p18, Nat.lt_succ_self _, by rw [hI18]; refine ⟨p18, c18_21 + 1, rfl, Int.le_trans hi18 (Int.le_add_one (Int.le_refl _)), drop_next hi18 hp18, rfl, (show 18 ≤ nx18 + 67 by omega), ?_, ?_, ?_, ?_, ?_, e37, e38, e39, e40, e41, e43, ?_, h⟩ <;> first | (simp only [ua, b45, d65, d79, e37, e38, e39, e40, e41, e42, e43, e44, nm, seval] <;> rfl) | rfl⟩
  simp only [d65, hs] at h
  try simp only [vz, tyf, b45, (ix23 o36), (ixo23 o47), (ixo23 o49), e57, e58, e59, e60, e61, e62, (ix24 o64), d65, nm, seval]
  refine opd_ret (x := (.lit (.int .i64 1))) (by first | (simp only [Tryz.results135, resV, resL, resV1, tgt_ptr, tgt_tp, uw, cr, tyf, b45, (ix23 o36), (ixo23 o47), (ixo23 o49), (ix24 o64), d65, nm, seval] <;> rfl) | rfl) ?_
  simp only [vz, tyf, b45, (ix23 o36), (ixo23 o47), (ixo23 o49), (ix24 o64), d65, nm, seval]
  refine opd_panic ?_
  try simp only [vz, tyf, b45, (ix23 o36), (ixo23 o47), (ixo23 o49), (ix24 o64), d65, e37, e38, e39, e40, e41, e42, e43, e44, nm, seval]
  refine opd_panicD ?_
  refine VDeferred.run mixed Tryz.call118 Tryz.func118 rfl (by kernel_rfl) ?_
  try simp only [vz, tyf, b45, (ix23 o36), (ixo23 o47), (ixo23 o49), (ix24 o64), d65, nm, seval]
  refine dpost_normal Tryz.results118 ?_
  refine afterD_rec (x := (.tup [.agg ([.lit (.int .i64 c18_21)] ++ [.lit (.int .i64 1)]), .lit (.bool true)])) (by first | (simp only [Tryz.results82, resV, resL, resV1, tgt_ptr, tgt_tp, uw, cr, tyf, b45, (ix23 o36), (ixo23 o47), (ixo23 o49), (ix24 o64), d65, e37, e38, e39, e40, e41, e42, e43, e44, nm, seval] <;> rfl) | rfl) ?_
  replace h := kR18 _ h
  try dsimp only at h
  obtain rfl := kF _ h
  refine rr_tree ?_ ?_
  ·simp only [tre, tytre, Bool.and_self]
  ·first | (simp only [outV, uw, showV_ref, cr, tyf, nrm, tynrm, b45, (ix23 o36), (ixo23 o47), (ixo23 o49), (ix24 o64), d65, e37, e38, e39, e40, e41, e42, e43, e44, nm, seval] <;> rfl) | rfl
end Go.V
end
section
namespace Go.V
open Go Go.Proofs
def g_coat_firstFailure_best_l0 (x0_x : Gcoatsums) (r1 : List Int) : List Int → Int → Option (LOut (Gcoatfailure × Bool) (Unit))
 | [], c0_21 => some (.go ())
 | e0 :: p0, c0_21 => Option.bind (getI (r1 ++ [(List.length x0_x.CoatSheet.Dry : Int)]) c0_21) (fun x2 => Option.bind (getI (r1 ++ [(List.length x0_x.CoatSheet.Dry : Int)]) (c0_21 + 1)) (fun x3 => Option.bind (g_coat_sums_greatest x0_x x2 x3) (fun r4 => Option.bind (getI x0_x.CoatSheet.Coats c0_21) (fun x5 => cond (decide (r4 < x5.Need)) (some (.ret ((Gcoatfailure.mk c0_21 1), true))) (Option.bind (g_coat_sums_isLast x0_x c0_21) (fun r6 => cond (r6) (g_coat_firstFailure_best_l0 x0_x r1 p0 (c0_21 + 1)) (Option.bind (g_coat_sums_least x0_x x2 x3) (fun r7 => cond (decide (r7 > x5.Peel)) (some (.ret ((Gcoatfailure.mk c0_21 2), true))) (g_coat_firstFailure_best_l0 x0_x r1 p0 (c0_21 + 1))))))))))
def g_coat_firstFailure_best (x0_x : Gcoatsums) (x2_plan : List Int) : Option (Gcoatfailure × Bool) := Option.bind (g_slices_Clone_Int x2_plan) (fun r1 => cond (roomOk 8 (List.length (r1 ++ [(List.length x0_x.CoatSheet.Dry : Int)]))) (cond (lenOk x2_plan) (lbind (g_coat_firstFailure_best_l0 x0_x r1 x2_plan 0) (fun r9 => some r9) (fun c8 => some ((Gcoatfailure.mk 0 0), false)) (fun _ _ => none)) none) none)
theorem g_coat_firstFailure_best_ok (x0_x : Gcoatsums) (x2_plan : List Int) (R : Gcoatfailure × Bool) (h : g_coat_firstFailure_best x0_x x2_plan = some R) : VPure Tryz.prog G0 82 [.agg (cGcoatsums x0_x), .agg ([VV.lit Value.nilFunc] ++ [VV.fn (Fn.func 112) [.agg (cGcoatsums x0_x)] []] ++ [VV.fn (Fn.func 121) [.agg (cGcoatsums x0_x)] []]), .sl (cellsL eI x2_plan) (List.length x2_plan) false] (.tree (.tup [.agg (cGcoatfailure R.1), .lit (.bool R.2)])) := by
 refine VPure.runR mixed Tryz.call82 Tryz.func82 rfl (by simp [Tryz.ntmps82]; kernel_rfl) ?_
 obtain ⟨KF, h, kF, kN⟩ := fun_intro h
 simp only [g_coat_firstFailure_best] at h
 simp only [vz, tyf, nm, seval]
 refine cwp_drawTF (fun tm => tm 2 = .sl (cellsL eI x2_plan) (List.length x2_plan) false ∧ tm 3 = .ptr 0 0 ∧ tm 4 = .ptr 1 0 ∧ tm 6 = .ptr 2 0 ∧ tm 7 = .ptr 3 0 ∧ True) (by refine ⟨?_, ?_, ?_, ?_, ?_, trivial⟩ <;> first | (simp only [ua, nm, seval] <;> rfl) | rfl) ?_
 rintro tm ⟨e10, e11, e12, e13, e14, _⟩
 rcases o16 : (g_slices_Clone_Int x2_plan) with _ | r15
 ·simp only [o16, hs] at h
  exact absurd h kN
 simp only [o16, hs] at h
 simp only [vz, tyf, e10, e11, e12, e13, e14, nm, seval]
 refine dkown (args0 := [.sl (cellsL eI x2_plan) (List.length x2_plan) false]) (by first | (simp only [nrm, tynrm] <;> rfl) | rfl) (by simp only [tre, tytre, Bool.and_self]) (g_slices_Clone_Int_ok _ _ o16) ?_
 cases g17 : (roomOk 8 (List.length (r15 ++ [(List.length x0_x.CoatSheet.Dry : Int)])))
 ·simp only [g17, hs] at h
  exact absurd h kN
 simp only [g17, hs] at h
 simp only [vz, tyf, e10, e11, e12, e13, e14, g17, nm, seval]
 refine k_app (w := 1) (enc := eI) (xs := r15) (ys := ([(List.length x0_x.CoatSheet.Dry : Int)])) (el := none) (el2 := (some 3)) (fun _ => rfl) lf23 ao23 Tryz.underlying23 (by first | rfl | assumption | (simp only [updH_apply, without_apply, et23, nm, seval] <;> rfl) | (simp only [updH_apply, without_apply, cellsL_cons, cellsL_nil, mV_app, mV_app0, tyf, e10, e11, e12, e13, e14, g17, nm, seval]; done)) (by first | rfl | assumption | (simp only [updH_apply, without_apply, et23, nm, seval] <;> rfl) | (simp only [updH_apply, without_apply, cellsL_cons, cellsL_nil, mV_app, mV_app0, tyf, e10, e11, e12, e13, e14, g17, nm, seval]; done)) (Nat.zero_lt_succ _) g17 ?_
 simp only [vz, tyf, e10, e11, e12, e13, e14, g17, nm, seval]
 refine drawK_nil ⟨?_, ?_⟩
 ·simp only [traceR_cons, traceR_nil, hitK_quiet, hitK_nil, and_true, true_and]
  repeat' (first | exact trivial | refine And.intro ?_ ?_ | rw [hitK_quiet] | rw [hitK_cons] | exact Or.inl (by decide +kernel) | exact Or.inl (by dsimp only; decide +kernel) | (refine Or.inr ⟨?_, ?_⟩ <;> simp; done) | (refine Or.inr ⟨?_, ?_⟩ <;> simp <;> omega) | (refine Or.inr ⟨?_, ?_⟩ <;> simp [VEff.wr] <;> omega))
 cases g19 : (lenOk x2_plan)
 ·simp only [g19, hs] at h
  exact absurd h kN
 simp only [g19, hs] at h
 simp only [vz, tyf, e10, e11, e12, e13, e14, g17, g19, nm, seval]
 obtain ⟨K18, h, kR18, kG18, kB18, kN18⟩ := lbind_intro h kN
 obtain ⟨f18, hf18, h⟩ := call2 h
 obtain ⟨I18, hI18⟩ : ∃ I : Nat → St → Prop, I = (fun m st => ∃ (p18 : List Int) (c18_21 : Int), m = List.length p18 ∧ 0 ≤ c18_21 ∧ List.drop (Int.toNat c18_21) x2_plan = p18 ∧ st.df = [.fn (.func 118) [.ptr 2 0, .ptr 3 0] []] ∧ 18 ≤ st.nx ∧ st.H 0 = some (.cells (some 81) (cGcoatsums x0_x)) ∧ st.H 1 = some (.cells (some 99) ([VV.lit Value.nilFunc] ++ [VV.fn (Fn.func 112) [.agg (cGcoatsums x0_x)] []] ++ [VV.fn (Fn.func 121) [.agg (cGcoatsums x0_x)] []])) ∧ st.H 2 = some (.cells (some 94) ([.lit (.int .i64 0)] ++ [.lit (.int .i64 0)])) ∧ st.H 3 = some (.cells (some 4) ([.lit (.bool false)])) ∧ st.H 13 = some (.cells ((sameEl none 3)) (cellsL eI (r15 ++ [(List.length x0_x.CoatSheet.Dry : Int)]))) ∧ st.tm 3 = .ptr 0 0 ∧ st.tm 4 = .ptr 1 0 ∧ st.tm 6 = .ptr 2 0 ∧ st.tm 7 = .ptr 3 0 ∧ st.tm 8 = .ref 13 0 (List.length (r15 ++ [(List.length x0_x.CoatSheet.Dry : Int)])) 1 (List.length (r15 ++ [(List.length x0_x.CoatSheet.Dry : Int)])) ∧ st.tm 20 = .lit (.int .i64 (List.length x2_plan : Int)) ∧ st.tm 21 = .lit (.int .i64 c18_21) ∧ K18 (f18 p18 c18_21)) := ⟨_, rfl⟩
 refine loopK mixed (by kernel_rfl) I18 (List.length x2_plan) (by rw [hI18]; refine ⟨x2_plan, 0, rfl, Int.le_refl _, rfl, rfl, (show 18 ≤ 18 by omega), ?_, ?_, ?_, ?_, ?_, e11, e12, e13, e14, ?_, ?_, ?_, h⟩ <;> first | (simp only [ua, e10, e11, e12, e13, e14, nm, seval] <;> rfl) | rfl) ?_
 rintro m ⟨tm, H, nx18, df⟩ hinv
 rw [hI18] at hinv
 obtain ⟨p18, c18_21, rfl, hi18, hp18, hdf, hn18, H20, H21, H22, H23, H24, e25, e26, e27, e28, e29, e30, e31, h⟩ := hinv
 simp only at hdf hn18 H20 H21 H22 H23 H24 e25 e26 e27 e28 e29 e30 e31
 have n32 := base_ne0 (m := 18) (b := nx18) (by omega)
 subst hdf hf18
 cases p18 with
 | nil =>
  have d33 : (decide (c18_21 < (List.length x2_plan : Int))) = false := not_lt_of_drop hi18 hp18
  simp only [g_coat_firstFailure_best_l0, hs, reduceCtorEq] at h
  replace h := kG18 _ h
  try dsimp only at h
  try simp only [hs] at h
  try simp only [vz, tyf, g17, g19, n32, e25, e26, e27, e28, e29, e30, e31, H20, H21, H22, H23, H24, d33, nm, seval]
  refine opd_retD ?_
  refine VDeferred.run mixed Tryz.call118 Tryz.func118 rfl (by kernel_rfl) ?_
  try simp only [vz, tyf, g17, g19, n32, H20, H21, H22, H23, H24, d33, nm, seval]
  refine dpost_normal Tryz.results118 ?_
  refine afterD_ret (x := (.tup [.agg ([.lit (.int .i64 0)] ++ [.lit (.int .i64 0)]), .lit (.bool false)])) (by first | (simp only [Tryz.results82, resV, resL, resV1, tgt_ptr, tgt_tp, uw, cr, tyf, g17, g19, n32, H20, H21, H22, H23, H24, d33, e25, e26, e27, e28, e29, e30, e31, nm, seval] <;> rfl) | rfl) ?_
  obtain rfl := kF _ h
  refine rr_tree ?_ ?_
  ·simp only [tre, tytre, Bool.and_self]
  ·first | (simp only [outV, uw, showV_ref, cr, tyf, nrm, tynrm, g17, g19, n32, H20, H21, H22, H23, H24, d33, e25, e26, e27, e28, e29, e30, e31, nm, seval] <;> rfl) | rfl
 | cons e18 p18 =>
  have d34 : (decide (c18_21 < (List.length x2_plan : Int))) = true := lt_of_drop hi18 hp18
  have o36 := getI_of_drop hi18 hp18
  have w35 := wrap_next hi18 hp18 g19
  simp only [g_coat_firstFailure_best_l0, hs, reduceCtorEq] at h
  simp only [vz, tyf, g17, g19, n32, e25, e26, e27, e28, e29, e30, e31, H20, H21, H22, H23, H24, d34, (ix23 o36), w35, nm, seval]
  refine cwp_cutF (fun tm => tm 3 = .ptr 0 0 ∧ tm 4 = .ptr 1 0 ∧ tm 6 = .ptr 2 0 ∧ tm 7 = .ptr 3 0 ∧ tm 8 = .ref 13 0 (List.length (r15 ++ [(List.length x0_x.CoatSheet.Dry : Int)])) 1 (List.length (r15 ++ [(List.length x0_x.CoatSheet.Dry : Int)])) ∧ tm 9 = .lit (.int .i64 c18_21) ∧ tm 20 = .lit (.int .i64 (List.length x2_plan : Int)) ∧ tm 21 = .lit (.int .i64 c18_21) ∧ True) (by refine ⟨e25, e26, e27, e28, e29, ?_, e30, e31, trivial⟩ <;> first | (simp only [ua, n32, e25, e26, e27, e28, e29, e30, e31, H20, H21, H22, H23, H24, d34, w35, nm, seval] <;> rfl) | rfl) ?_
  rintro tm ⟨e37, e38, e39, e40, e41, e42, e43, e44, _⟩
  have b45 := And.intro g17 (And.intro g19 (And.intro n32 (And.intro H20 (And.intro H21 (And.intro H22 (And.intro H23 (And.intro H24 (And.intro d34 w35))))))))
  refine cwp_drawS mixed 12 rfl rfl rfl (by kernel_rfl) ?_
  rcases o47 : (getI (r15 ++ [(List.length x0_x.CoatSheet.Dry : Int)]) c18_21) with _ | x46
  ·simp only [o47, hs] at h
   exact absurd h kN18
  simp only [o47, hs] at h
  rcases o49 : (getI (r15 ++ [(List.length x0_x.CoatSheet.Dry : Int)]) (c18_21 + 1)) with _ | x48
  ·simp only [o49, hs] at h
   exact absurd h kN18
  simp only [o49, hs] at h
  try simp only [vz, tyf, b45, (ix23 o36), e37, e38, e39, e40, e41, e42, e43, e44, (ixo23 o47), (ixo23 o49), nm, seval]
  refine kopen ?_
  rw [openK_eq]
  refine VOpen.run mixed Tryz.call120 Tryz.func120 rfl (by simp [Tryz.ntmps120]; kernel_rfl) ?_
  try simp only [vz, tyf, b45, (ix23 o36), (ixo23 o47), (ixo23 o49), nm, seval]
  refine kopen ?_
  rw [openK_eq]
  refine VOpen.run mixed Tryz.call135 Tryz.func135 rfl (by simp [Tryz.ntmps135]; kernel_rfl) ?_
  simp only [vz, tyf, b45, (ix23 o36), (ixo23 o47), (ixo23 o49), nm, seval]
  refine cwp_drwQF (fun tm => tm 2 = .lit (.int .i64 c18_21) ∧ tm 3 = .lit (.int .i64 x46) ∧ tm 4 = .lit (.int .i64 x48) ∧ tm 5 = .ptr (nx18 + 25) 0 ∧ tm 6 = .ptr (nx18 + 26) 0 ∧ True) (by refine ⟨?_, ?_, ?_, ?_, ?_, trivial⟩ <;> first | (simp only [ua, b45, nm, seval] <;> rfl) | rfl) ?_
  rintro tm ⟨e50, e51, e52, e53, e54, _⟩
  rcases o56 : (g_coat_sums_greatest x0_x x46 x48) with _ | r55
  ·simp only [o56, hs] at h
   exact absurd h kN18
  simp only [o56, hs] at h
  simp only [vz, tyf, b45, (ix23 o36), (ixo23 o47), (ixo23 o49), e50, e51, e52, e53, e54, nm, seval]
  refine dktree (args0 := [.agg (cGcoatsums x0_x), .lit (.int .i64 x46), .lit (.int .i64 x48)]) (by first | (simp only [nrm, tynrm] <;> rfl) | rfl) (by simp only [tre, tytre, Bool.and_self]) (g_coat_sums_greatest_ok _ _ _ _ o56) ?_
  refine fin_cut (fun tm => tm 2 = .lit (.int .i64 c18_21) ∧ tm 3 = .lit (.int .i64 x46) ∧ tm 4 = .lit (.int .i64 x48) ∧ tm 5 = .ptr (nx18 + 25) 0 ∧ tm 6 = .ptr (nx18 + 26) 0 ∧ tm 16 = .lit (.int .i64 r55) ∧ True) (by refine ⟨e50, e51, e52, e53, e54, ?_, trivial⟩ <;> first | (simp only [ua, b45, e50, e51, e52, e53, e54, nm, seval] <;> rfl) | rfl) ?_
  rintro tm ⟨e57, e58, e59, e60, e61, e62, _⟩
  rcases o64 : (getI x0_x.CoatSheet.Coats c18_21) with _ | x63
  ·simp only [o64, hs] at h
   exact absurd h kN18
  simp only [o64, hs] at h
  cases d65 : (decide (r55 < x63.Need))
  ·simp only [d65, hs] at h
   simp only [vz, tyf, b45, (ix23 o36), (ixo23 o47), (ixo23 o49), e57, e58, e59, e60, e61, e62, (ix24 o64), d65, nm, seval]
   refine cwp_drwQF (fun tm => tm 2 = .lit (.int .i64 c18_21) ∧ tm 3 = .lit (.int .i64 x46) ∧ tm 4 = .lit (.int .i64 x48) ∧ tm 5 = .ptr (nx18 + 25) 0 ∧ tm 6 = .ptr (nx18 + 26) 0 ∧ True) (by refine ⟨e57, e58, e59, e60, e61, trivial⟩ <;> first | (simp only [ua, b45, e57, e58, e59, e60, e61, e62, d65, nm, seval] <;> rfl) | rfl) ?_
   rintro tm ⟨e66, e67, e68, e69, e70, _⟩
   rcases o72 : (g_coat_sums_isLast x0_x c18_21) with _ | r71
   ·simp only [o72, hs] at h
    exact absurd h kN18
   simp only [o72, hs] at h
   simp only [vz, tyf, b45, (ix23 o36), (ixo23 o47), (ixo23 o49), (ix24 o64), d65, e66, e67, e68, e69, e70, nm, seval]
   refine dktree (args0 := [.agg (cGcoatsums x0_x), .lit (.int .i64 c18_21)]) (by first | (simp only [nrm, tynrm] <;> rfl) | rfl) (by simp only [tre, tytre, Bool.and_self]) (g_coat_sums_isLast_ok _ _ _ o72) ?_
   refine fin_cut (fun tm => tm 2 = .lit (.int .i64 c18_21) ∧ tm 3 = .lit (.int .i64 x46) ∧ tm 4 = .lit (.int .i64 x48) ∧ tm 5 = .ptr (nx18 + 25) 0 ∧ tm 6 = .ptr (nx18 + 26) 0 ∧ tm 28 = .lit (.bool r71) ∧ True) (by refine ⟨e66, e67, e68, e69, e70, ?_, trivial⟩ <;> first | (simp only [ua, b45, d65, e66, e67, e68, e69, e70, nm, seval] <;> rfl) | rfl) ?_
   rintro tm ⟨e73, e74, e75, e76, e77, e78, _⟩
   cases d79 : (r71)
   ·simp only [d79, hs] at h
    rcases o81 : (g_coat_sums_least x0_x x46 x48) with _ | r80
    ·simp only [o81, hs] at h
     exact absurd h kN18
    simp only [o81, hs] at h
    simp only [vz, tyf, b45, (ix23 o36), (ixo23 o47), (ixo23 o49), (ix24 o64), d65, e73, e74, e75, e76, e77, e78, d79, nm, seval]
    refine dktree (args0 := [.agg (cGcoatsums x0_x), .lit (.int .i64 x46), .lit (.int .i64 x48)]) (by first | (simp only [nrm, tynrm] <;> rfl) | rfl) (by simp only [tre, tytre, Bool.and_self]) (g_coat_sums_least_ok _ _ _ _ o81) ?_
    refine fin_cut (fun tm => tm 2 = .lit (.int .i64 c18_21) ∧ tm 5 = .ptr (nx18 + 25) 0 ∧ tm 30 = .lit (.bool true) ∧ tm 35 = .lit (.int .i64 r80) ∧ True) (by refine ⟨e73, e76, ?_, ?_, trivial⟩ <;> first | (simp only [ua, b45, d65, e73, e74, e75, e76, e77, e78, d79, nm, seval] <;> rfl) | rfl) ?_
    rintro tm ⟨e82, e83, e84, e85, _⟩
    cases d86 : (decide (r80 > x63.Peel))
    ·simp only [d86, hs] at h
     try simp only [vz, tyf, b45, (ix23 o36), (ixo23 o47), (ixo23 o49), (ix24 o64), d65, d79, e82, e83, e84, e85, d86, nm, seval]
     refine opd_ret (x := (.lit (.int .i64 0))) (by first | (simp only [Tryz.results135, resV, resL, resV1, tgt_ptr, tgt_tp, uw, cr, tyf, b45, (ix23 o36), (ixo23 o47), (ixo23 o49), (ix24 o64), d65, d79, d86, nm, seval] <;> rfl) | rfl) ?_
     try simp only [vz, tyf, b45, (ix23 o36), (ixo23 o47), (ixo23 o49), (ix24 o64), d65, d79, d86, nm, seval]
     refine opd_normal (x := (.tup [])) (by first | (simp only [Tryz.results120, resV, resL, resV1, tgt_ptr, tgt_tp, uw, cr, tyf, b45, (ix23 o36), (ixo23 o47), (ixo23 o49), (ix24 o64), d65, d79, d86, nm, seval] <;> rfl) | rfl) ?_
     simp only [vz, tyf, b45, (ix23 o36), (ixo23 o47), (ixo23 o49), (ix24 o64), d65, d79, d86, e37, e38, e39, e40, e41, e42, e43, e44, nm, seval]
     exact ⟨List.length p18, Nat.lt_succ_self _, by rw [hI18]; refine ⟨p18, c18_21 + 1, rfl, Int.le_trans hi18 (Int.le_add_one (Int.le_refl _)), drop_next hi18 hp18, rfl, (show 18 ≤ nx18 + 67 by omega), ?_, ?_, ?_, ?_, ?_, e37, e38, e39, e40, e41, e43, ?_, h⟩ <;> first | (simp only [ua, b45, d65, d79, d86, e37, e38, e39, e40, e41, e42, e43, e44, nm, seval] <;> rfl) | rfl⟩
    simp only [d86, hs] at h
    try simp only [vz, tyf, b45, (ix23 o36), (ixo23 o47), (ixo23 o49), (ix24 o64), d65, d79, e82, e83, e84, e85, d86, nm, seval]
    refine opd_ret (x := (.lit (.int .i64 2))) (by first | (simp only [Tryz.results135, resV, resL, resV1, tgt_ptr, tgt_tp, uw, cr, tyf, b45, (ix23 o36), (ixo23 o47), (ixo23 o49), (ix24 o64), d65, d79, d86, nm, seval] <;> rfl) | rfl) ?_
    simp only [vz, tyf, b45, (ix23 o36), (ixo23 o47), (ixo23 o49), (ix24 o64), d65, d79, d86, nm, seval]
    refine opd_panic ?_
    try simp only [vz, tyf, b45, (ix23 o36), (ixo23 o47), (ixo23 o49), (ix24 o64), d65, d79, d86, e37, e38, e39, e40, e41, e42, e43, e44, nm, seval]
    refine opd_panicD ?_
    refine VDeferred.run mixed Tryz.call118 Tryz.func118 rfl (by kernel_rfl) ?_
    try simp only [vz, tyf, b45, (ix23 o36), (ixo23 o47), (ixo23 o49), (ix24 o64), d65, d79, d86, nm, seval]
    refine dpost_normal Tryz.results118 ?_
    refine afterD_rec (x := (.tup [.agg ([.lit (.int .i64 c18_21)] ++ [.lit (.int .i64 2)]), .lit (.bool true)])) (by first | (simp only [Tryz.results82, resV, resL, resV1, tgt_ptr, tgt_tp, uw, cr, tyf, b45, (ix23 o36), (ixo23 o47), (ixo23 o49), (ix24 o64), d65, d79, d86, e37, e38, e39, e40, e41, e42, e43, e44, nm, seval] <;> rfl) | rfl) ?_
    replace h := kR18 _ h
    try dsimp only at h
    obtain rfl := kF _ h
    refine rr_tree ?_ ?_
    ·simp only [tre, tytre, Bool.and_self]
    ·first | (simp only [outV, uw, showV_ref, cr, tyf, nrm, tynrm, b45, (ix23 o36), (ixo23 o47), (ixo23 o49), (ix24 o64), d65, d79, d86, e37, e38, e39, e40, e41, e42, e43, e44, nm, seval] <;> rfl) | rfl
   simp only [d79, hs] at h
   try simp only [vz, tyf, b45, (ix23 o36), (ixo23 o47), (ixo23 o49), (ix24 o64), d65, e73, e74, e75, e76, e77, e78, d79, nm, seval]
   refine opd_ret (x := (.lit (.int .i64 0))) (by first | (simp only [Tryz.results135, resV, resL, resV1, tgt_ptr, tgt_tp, uw, cr, tyf, b45, (ix23 o36), (ixo23 o47), (ixo23 o49), (ix24 o64), d65, d79, nm, seval] <;> rfl) | rfl) ?_
   try simp only [vz, tyf, b45, (ix23 o36), (ixo23 o47), (ixo23 o49), (ix24 o64), d65, d79, nm, seval]
   refine opd_normal (x := (.tup [])) (by first | (simp only [Tryz.results120, resV, resL, resV1, tgt_ptr, tgt_tp, uw, cr, tyf, b45, (ix23 o36), (ixo23 o47), (ixo23 o49), (ix24 o64), d65, d79, nm, seval] <;> rfl) | rfl) ?_
   simp only [vz, tyf, b45, (ix23 o36), (ixo23 o47), (ixo23 o49), (ix24 o64), d65, d79, e37, e38, e39, e40, e41, e42, e43, e44, nm, seval]
   exact ⟨List.length p18, Nat.lt_succ_self _, by rw [hI18]; refine ⟨p18, c18_21 + 1, rfl, Int.le_trans hi18 (Int.le_add_one (Int.le_refl _)), drop_next hi18 hp18, rfl, (show 18 ≤ nx18 + 67 by omega), ?_, ?_, ?_, ?_, ?_, e37, e38, e39, e40, e41, e43, ?_, h⟩ <;> first | (simp only [ua, b45, d65, d79, e37, e38, e39, e40, e41, e42, e43, e44, nm, seval] <;> rfl) | rfl⟩
  simp only [d65, hs] at h
  try simp only [vz, tyf, b45, (ix23 o36), (ixo23 o47), (ixo23 o49), e57, e58, e59, e60, e61, e62, (ix24 o64), d65, nm, seval]
  refine opd_ret (x := (.lit (.int .i64 1))) (by first | (simp only [Tryz.results135, resV, resL, resV1, tgt_ptr, tgt_tp, uw, cr, tyf, b45, (ix23 o36), (ixo23 o47), (ixo23 o49), (ix24 o64), d65, nm, seval] <;> rfl) | rfl) ?_
  simp only [vz, tyf, b45, (ix23 o36), (ixo23 o47), (ixo23 o49), (ix24 o64), d65, nm, seval]
  refine opd_panic ?_
  try simp only [vz, tyf, b45, (ix23 o36), (ixo23 o47), (ixo23 o49), (ix24 o64), d65, e37, e38, e39, e40, e41, e42, e43, e44, nm, seval]
  refine opd_panicD ?_
  refine VDeferred.run mixed Tryz.call118 Tryz.func118 rfl (by kernel_rfl) ?_
  try simp only [vz, tyf, b45, (ix23 o36), (ixo23 o47), (ixo23 o49), (ix24 o64), d65, nm, seval]
  refine dpost_normal Tryz.results118 ?_
  refine afterD_rec (x := (.tup [.agg ([.lit (.int .i64 c18_21)] ++ [.lit (.int .i64 1)]), .lit (.bool true)])) (by first | (simp only [Tryz.results82, resV, resL, resV1, tgt_ptr, tgt_tp, uw, cr, tyf, b45, (ix23 o36), (ixo23 o47), (ixo23 o49), (ix24 o64), d65, e37, e38, e39, e40, e41, e42, e43, e44, nm, seval] <;> rfl) | rfl) ?_
  replace h := kR18 _ h
  try dsimp only at h
  obtain rfl := kF _ h
  refine rr_tree ?_ ?_
  ·simp only [tre, tytre, Bool.and_self]
  ·first | (simp only [outV, uw, showV_ref, cr, tyf, nrm, tynrm, b45, (ix23 o36), (ixo23 o47), (ixo23 o49), (ix24 o64), d65, e37, e38, e39, e40, e41, e42, e43, e44, nm, seval] <;> rfl) | rfl
end Go.V
end
section
namespace Go.V
open Go Go.Proofs
theorem g_coat_sums_atWorst_ok (x0_x : Gcoatsums) : VPure Tryz.prog G0 83 [.agg (cGcoatsums x0_x)] (.tree (.agg ([VV.lit Value.nilFunc] ++ [VV.fn (Fn.func 121) [.agg (cGcoatsums x0_x)] []] ++ [VV.fn (Fn.func 112) [.agg (cGcoatsums x0_x)] []]))) := by
 refine VPure.runR mixed Tryz.call83 Tryz.func83 rfl (by simp [Tryz.ntmps83]; kernel_rfl) ?_
 try simp only [vz, tyf, nm, seval]
 refine opd_ret (x := (.agg ([VV.lit Value.nilFunc] ++ [VV.fn (Fn.func 121) [.agg (cGcoatsums x0_x)] []] ++ [VV.fn (Fn.func 112) [.agg (cGcoatsums x0_x)] []]))) (by first | (simp only [Tryz.results83, resV, resL, resV1, tgt_ptr, tgt_tp, uw, cr, tyf, nm, seval] <;> rfl) | rfl) ?_
 refine rr_tree ?_ ?_
 ·simp only [tre, tytre, tree_fn, cellsL_nil, mV_app, mV_app0, Bool.and_self]
 ·first | (simp only [outV, uw, showV_ref, cr, tyf, nrm, tynrm, showV_fn, normV_fn, normV_nilF, nm, seval] <;> rfl) | rfl
end Go.V
end
section
namespace Go.V
open Go Go.Proofs
end Go.V
end
section
namespace Go.V
open Go Go.Proofs
end Go.V
end
section
namespace Go.V
open Go Go.Proofs
end Go.V
end
section
namespace Go.V
open Go Go.Proofs
end Go.V
end
section
namespace Go.V
open Go Go.Proofs
end Go.V
end
section
namespace Go.V
open Go Go.Proofs
end Go.V
end
section
namespace Go.V
open Go Go.Proofs
end Go.V
end
section
namespace Go.V
open Go Go.Proofs
end Go.V
end
section
namespace Go.V
open Go Go.Proofs
end Go.V
end
section
namespace Go.V
open Go
def SI (w : List Int) (k : Int) : Int := (w.take k.toNat).sum
structure WOk (w : List Int) : Prop where
 v : ∀ x ∈ w, 0 ≤ x ∧ x ≤ 24
 l : w.length ≤ 12
theorem sum_bd : ∀ (w : List Int), (∀ x ∈ w, 0 ≤ x ∧ x ≤ 24) → 0 ≤ w.sum ∧ w.sum ≤ 24 * w.length
 | [], _ => by simp
 | x :: w, h => by
  have h1 := h x (by simp)
  have h2 := sum_bd w (fun y hy => h y (by simp [hy]))
  simp only [List.sum_cons, List.length_cons]
  omega
theorem SI_bd {w : List Int} (h : WOk w) (k : Int) : 0 ≤ SI w k ∧ SI w k ≤ 288 := by
 have h1 := sum_bd (w.take k.toNat) (fun x hx => h.v x (List.mem_of_mem_take hx))
 have h2 : (w.take k.toNat).length ≤ 12 := by rw [List.length_take]; have := h.l; omega
 unfold SI
 omega
theorem sumOf_l0 : ∀ (p : List Int) (c acc : Int), (∀ v ∈ p, 0 ≤ v ∧ v ≤ 24) → 0 ≤ acc → acc + 24 * p.length < 9223372036854775808 → g_sum_Of_l0 p c acc = some (.go (acc + p.sum))
 | [], _, _, _, _, _ => by simp [g_sum_Of_l0]
 | e :: p, c, acc, h, h0, h1 => by
  have h2 := h e (by simp)
  simp only [List.length_cons] at h1
  simp only [g_sum_Of_l0]
  rw [wrap_eq (by omega) (by omega), sumOf_l0 p (c + 1) (acc + e) (fun v hv => h v (by simp [hv])) (by omega) (by omega), List.sum_cons]
  congr 2
  omega
theorem sumOf_eq {p : List Int} (h : ∀ v ∈ p, 0 ≤ v ∧ v ≤ 24) (hl : p.length ≤ 12) : g_sum_Of p = some p.sum := by
 unfold g_sum_Of
 rw [lenOk_of (by omega), sumOf_l0 p 0 0 h (Int.le_refl _) (by omega)]
 simp [lbind]
def lowsL (d : List GSpan) : List Int := d.map (·.Low)
def highsL (d : List GSpan) : List Int := d.map (·.High)
theorem room_small {n : Nat} (h : n ≤ 1000) : roomOk 8 n = true := by simp [roomOk]; omega
theorem summed_l0 : ∀ (p : List GSpan) (c : Int) (a b : List Int), a.length + p.length ≤ 500 → b.length + p.length ≤ 500 → g_coat_summed_l0 p c a b = some (.go (a ++ lowsL p, b ++ highsL p))
 | [], _, a, b, _, _ => by simp [g_coat_summed_l0, lowsL, highsL]
 | e :: p, c, a, b, h1, h2 => by
  simp only [List.length_cons] at h1 h2
  simp only [g_coat_summed_l0]
  rw [room_small (by simp; omega), room_small (by simp; omega), cond_true, cond_true, summed_l0 p (c + 1) _ _ (by simp; omega) (by simp; omega)]
  simp [lowsL, highsL]
def preL (w : List Int) (c k : Nat) : List Int := (List.range' c k).map fun j => (w.take j).sum
theorem preL_length {w : List Int} {c k : Nat} : (preL w c k).length = k := by simp [preL]
theorem getI_pre {w : List Int} {n : Nat} {k : Int} (h0 : 0 ≤ k) (h1 : k ≤ n) : getI (preL w 0 (n + 1)) k = some (SI w k) := by
 unfold getI preL SI
 rw [if_pos h0]
 simp only [List.getElem?_map]
 rw [List.getElem?_range' (by omega)]
 simp
theorem summed_l1 {c1 : List Int × List Int} {n : Nat} (hn : 0 < n) (h12 : n ≤ 12) (l1 : c1.1.length = n) (l2 : c1.2.length = n) (v1 : ∀ v ∈ c1.1, 0 ≤ v ∧ v ≤ 24) (v2 : ∀ v ∈ c1.2, 0 ≤ v ∧ v ≤ 24) : ∀ (k c : Nat) (a b : List Int), c + k = n + 1 → a.length = c → b.length = c →
  g_coat_summed_l1 c1 k (c : Int) a b = some (.go (a ++ preL c1.1 c k, b ++ preL c1.2 c k))
 | 0, c, a, b, _, _, _ => by simp [g_coat_summed_l1, preL]
 | k + 1, c, a, b, h, ha, hb => by
  simp only [g_coat_summed_l1]
  have p1 : pfxOk c1.1.length (c : Int) = true := pfxOk_iff.2 ⟨by omega, by omega, by omega⟩
  have p2 : pfxOk c1.2.length (c : Int) = true := pfxOk_iff.2 ⟨by omega, by omega, by omega⟩
  have q1 : le1000 (c1.1.length * 1) = true := by simp [le1000]; omega
  have q2 : le1000 (c1.2.length * 1) = true := by simp [le1000]; omega
  rw [p1, p2, q1, q2, sumOf_eq (p := c1.1.take (Int.toNat c)) (fun v hv => v1 v (List.mem_of_mem_take hv)) (by rw [List.length_take]; omega), sumOf_eq (p := c1.2.take (Int.toNat c)) (fun v hv => v2 v (List.mem_of_mem_take hv)) (by rw [List.length_take]; omega)]
  simp only [cond_true, Option.bind_some]
  rw [room_small (by simp; omega), room_small (by simp; omega), cond_true, cond_true]
  have := summed_l1 hn h12 l1 l2 v1 v2 k (c + 1) (a ++ [(c1.1.take (Int.toNat c)).sum]) (b ++ [(c1.2.take (Int.toNat c)).sum]) (by omega) (by simp [ha]) (by simp [hb])
  rw [show ((c + 1 : Nat) : Int) = (c : Int) + 1 by omega] at this
  rw [this]
  simp [preL, List.range'_succ]
structure DOk (d : List GSpan) : Prop where
 s : ∀ x ∈ d, spanB x = true
 l : 1 ≤ d.length ∧ d.length ≤ 12
theorem span_iff {x : GSpan} : spanB x = true ↔ 0 ≤ x.Low ∧ x.Low ≤ x.High ∧ x.High ≤ 24 := by
 unfold spanB
 simp only [Bool.and_eq_true, inB_iff, decide_eq_true_eq]
 omega
theorem DOk.low {d : List GSpan} (h : DOk d) : WOk (lowsL d) := ⟨fun x hx => by
 obtain ⟨y, hy, rfl⟩ := List.mem_map.1 hx
 have := span_iff.1 (h.s y hy)
 omega, by simp [lowsL]; exact h.l.2⟩
theorem DOk.high {d : List GSpan} (h : DOk d) : WOk (highsL d) := ⟨fun x hx => by
 obtain ⟨y, hy, rfl⟩ := List.mem_map.1 hx
 have := span_iff.1 (h.s y hy)
 omega, by simp [highsL]; exact h.l.2⟩
theorem neB_of {α : Type} {xs : List α} (h : 1 ≤ xs.length) : neB xs = true := by cases xs with | nil => simp at h | cons a p => rfl
theorem summed_eq {s : GCoatSheet} (h : DOk s.Dry) : g_coat_summed s = some ⟨s, preL (lowsL s.Dry) 0 (s.Dry.length + 1), preL (highsL s.Dry) 0 (s.Dry.length + 1)⟩ := by
 have hl := h.l
 unfold g_coat_summed
 rw [lenOk_of (by omega), summed_l0 _ _ _ _ (by simp; omega) (by simp; omega)]
 simp only [cond_true, lbind, List.nil_append]
 rw [neB_of (by simp [lowsL]; omega), neB_of (by simp [highsL]; omega), wrap_eq (by omega) (by omega), show boundOk ((s.Dry.length : Int) + 1) = true by simp [boundOk]; omega]
 have := summed_l1 (c1 := (lowsL s.Dry, highsL s.Dry)) (n := s.Dry.length) (by omega) hl.2 (by simp [lowsL]) (by simp [highsL]) h.low.v h.high.v (s.Dry.length + 1) 0 [] [] (by omega) rfl rfl
 rw [show Int.toNat ((s.Dry.length : Int) + 1 - 0) = s.Dry.length + 1 by omega]
 rw [show ((0 : Nat) : Int) = 0 from rfl] at this
 rw [this]
 simp only [cond_true, List.nil_append]
 rw [neB_of (by rw [preL_length]; omega), neB_of (by rw [preL_length]; omega)]
 rfl
def failW (lo hi : Int → Int) (n : Int) : List Int → List GCoatCoat → Int → Option (Int × Int)
 | a :: p, c :: cs, i => cond (decide (lo (p.headD n) - lo a < c.Need)) (some (i, 1)) (cond (!p.isEmpty && decide (hi (p.headD n) - hi a > c.Peel)) (some (i, 2)) (failW lo hi n p cs (i + 1)))
 | _, _, _ => none
theorem drop_app {α : Type} {l p : List α} {c : Nat} {z : α} (h : l.drop c = p) (hc : c ≤ l.length) : (l ++ [z]).drop c = p ++ [z] := by
 rw [List.drop_append_of_le_length hc, h]
theorem drop_len {α : Type} {l p : List α} {c : Nat} {a : α} (h : l.drop c = a :: p) : l.length = c + 1 + p.length := by
 have := congrArg List.length h
 rw [List.length_drop, List.length_cons] at this
 omega
theorem head_app (p : List Int) (n : Int) : ∃ q, p ++ [n] = p.headD n :: q := by
 cases p with
 | nil => exact ⟨[], rfl⟩
 | cons a p => exact ⟨p ++ [n], rfl⟩
def ffR (o : Option (Int × Int)) : Option (LOut (Gcoatfailure × Bool) Unit) := match o with
 | some r => some (.ret (⟨r.1, r.2⟩, true))
 | none => some (.go ())
section
variable {x : Gcoatsums} {lo hi : Int → Int} (hlo : ∀ k : Int, 0 ≤ k → k ≤ x.CoatSheet.Dry.length → getI x.lows k = some (lo k)) (hhi : ∀ k : Int, 0 ≤ k → k ≤ x.CoatSheet.Dry.length → getI x.highs k = some (hi k))
 (blo : ∀ k : Int, 0 ≤ lo k ∧ lo k ≤ 288) (bhi : ∀ k : Int, 0 ≤ hi k ∧ hi k ≤ 288) (hc : lenOk x.CoatSheet.Coats = true)
include hlo blo in
theorem least_eq {a b : Int} (ha : 0 ≤ a ∧ a ≤ x.CoatSheet.Dry.length) (hb : 0 ≤ b ∧ b ≤ x.CoatSheet.Dry.length) : g_coat_sums_least x a b = some (lo b - lo a) := by
 have h1 := blo a
 have h2 := blo b
 unfold g_coat_sums_least
 rw [hlo b hb.1 hb.2, hlo a ha.1 ha.2]
 simp only [Option.bind_some]
 rw [wrap_eq (by omega) (by omega)]
include hhi bhi in
theorem greatest_eq {a b : Int} (ha : 0 ≤ a ∧ a ≤ x.CoatSheet.Dry.length) (hb : 0 ≤ b ∧ b ≤ x.CoatSheet.Dry.length) : g_coat_sums_greatest x a b = some (hi b - hi a) := by
 have h1 := bhi a
 have h2 := bhi b
 unfold g_coat_sums_greatest
 rw [hhi b hb.1 hb.2, hhi a ha.1 ha.2]
 simp only [Option.bind_some]
 rw [wrap_eq (by omega) (by omega)]
include hc in
theorem isLast_eq {c : Int} {k : GCoatCoat} {cs : List GCoatCoat} {p : List Int} (h0 : 0 ≤ c) (h : x.CoatSheet.Coats.drop c.toNat = k :: cs) (hl : p.length = cs.length) : g_coat_sums_isLast x c = some p.isEmpty := by
 have h1 := lenOk_lt hc
 have h2 := drop_len h
 unfold g_coat_sums_isLast
 rw [wrap_eq (by omega) (by omega)]
 congr 1
 cases p with
 | nil =>
  simp only [List.length_nil] at hl
  rw [List.isEmpty_nil, beq_iff_eq]; omega
 | cons a p =>
  simp only [List.length_cons] at hl
  rw [List.isEmpty_cons]
  exact beq_false_of_ne (by omega)
theorem headD_mem {p : List Int} {n : Int} (h : ∀ d ∈ p, 0 ≤ d ∧ d ≤ n) (hn : 0 ≤ n) : 0 ≤ p.headD n ∧ p.headD n ≤ n := by
 cases p with
 | nil => exact ⟨hn, Int.le_refl _⟩
 | cons a p => exact h a (by simp)
include hlo hhi blo bhi hc in
theorem ffw_l0 {r : List Int} : ∀ (p : List Int) (cs : List GCoatCoat) (c : Int), 0 ≤ c → r.drop c.toNat = p → x.CoatSheet.Coats.drop c.toNat = cs → p.length = cs.length → (∀ d ∈ p, 0 ≤ d ∧ d ≤ (x.CoatSheet.Dry.length : Int)) →
  g_coat_firstFailure_worst_l0 x r p c = ffR (failW lo hi x.CoatSheet.Dry.length p cs c)
 | [], _, _, _, _, _, _, _ => rfl
 | a :: p, [], _, _, _, _, hl, _ => by simp at hl
 | a :: p, k :: cs, c, h0, hp, hk, hl, hd => by
  have hlen := drop_len hp
  have e1 : (r ++ [(x.CoatSheet.Dry.length : Int)]).drop c.toNat = a :: (p ++ [(x.CoatSheet.Dry.length : Int)]) := drop_app hp (by omega)
  obtain ⟨q, hq⟩ := head_app p x.CoatSheet.Dry.length
  have e2 : (r ++ [(x.CoatSheet.Dry.length : Int)]).drop (c + 1).toNat = p.headD x.CoatSheet.Dry.length :: q := by rw [drop_next h0 e1, hq]
  have ha := hd a (by simp)
  have hb := headD_mem (p := p) (n := x.CoatSheet.Dry.length) (fun d hd' => hd d (by simp [hd'])) (by omega)
  simp only [List.length_cons, Nat.add_right_cancel_iff] at hl
  simp only [g_coat_firstFailure_worst_l0, getI_of_drop h0 e1, getI_of_drop (by omega) e2, getI_of_drop h0 hk, Option.bind_some, least_eq hlo blo ha hb, greatest_eq hhi bhi ha hb, isLast_eq hc h0 hk hl, failW]
  rw [ffw_l0 p cs (c + 1) (by omega) (drop_next h0 hp) (drop_next h0 hk) hl (fun d hd' => hd d (by simp [hd']))]
  cases decide (lo (p.headD x.CoatSheet.Dry.length) - lo a < k.Need) <;> cases p.isEmpty <;> cases decide (hi (p.headD x.CoatSheet.Dry.length) - hi a > k.Peel) <;> rfl
include hlo hhi blo bhi hc in
theorem ffb_l0 {r : List Int} : ∀ (p : List Int) (cs : List GCoatCoat) (c : Int), 0 ≤ c → r.drop c.toNat = p → x.CoatSheet.Coats.drop c.toNat = cs → p.length = cs.length → (∀ d ∈ p, 0 ≤ d ∧ d ≤ (x.CoatSheet.Dry.length : Int)) →
  g_coat_firstFailure_best_l0 x r p c = ffR (failW hi lo x.CoatSheet.Dry.length p cs c)
 | [], _, _, _, _, _, _, _ => rfl
 | a :: p, [], _, _, _, _, hl, _ => by simp at hl
 | a :: p, k :: cs, c, h0, hp, hk, hl, hd => by
  have hlen := drop_len hp
  have e1 : (r ++ [(x.CoatSheet.Dry.length : Int)]).drop c.toNat = a :: (p ++ [(x.CoatSheet.Dry.length : Int)]) := drop_app hp (by omega)
  obtain ⟨q, hq⟩ := head_app p x.CoatSheet.Dry.length
  have e2 : (r ++ [(x.CoatSheet.Dry.length : Int)]).drop (c + 1).toNat = p.headD x.CoatSheet.Dry.length :: q := by rw [drop_next h0 e1, hq]
  have ha := hd a (by simp)
  have hb := headD_mem (p := p) (n := x.CoatSheet.Dry.length) (fun d hd' => hd d (by simp [hd'])) (by omega)
  simp only [List.length_cons, Nat.add_right_cancel_iff] at hl
  simp only [g_coat_firstFailure_best_l0, getI_of_drop h0 e1, getI_of_drop (by omega) e2, getI_of_drop h0 hk, Option.bind_some, least_eq hlo blo ha hb, greatest_eq hhi bhi ha hb, isLast_eq hc h0 hk hl, failW]
  rw [ffb_l0 p cs (c + 1) (by omega) (drop_next h0 hp) (drop_next h0 hk) hl (fun d hd' => hd d (by simp [hd']))]
  cases decide (hi (p.headD x.CoatSheet.Dry.length) - hi a < k.Need) <;> cases p.isEmpty <;> cases decide (lo (p.headD x.CoatSheet.Dry.length) - lo a > k.Peel) <;> rfl
end
end Go.V
end
section
namespace Go.V
open Go Go.Proofs
theorem g_coat_sums_atBest_ok (x0_x : Gcoatsums) : VPure Tryz.prog G0 96 [.agg (cGcoatsums x0_x)] (.tree (.agg ([VV.lit Value.nilFunc] ++ [VV.fn (Fn.func 112) [.agg (cGcoatsums x0_x)] []] ++ [VV.fn (Fn.func 121) [.agg (cGcoatsums x0_x)] []]))) := by
 refine VPure.runR mixed Tryz.call96 Tryz.func96 rfl (by simp [Tryz.ntmps96]; kernel_rfl) ?_
 try simp only [vz, tyf, nm, seval]
 refine opd_ret (x := (.agg ([VV.lit Value.nilFunc] ++ [VV.fn (Fn.func 112) [.agg (cGcoatsums x0_x)] []] ++ [VV.fn (Fn.func 121) [.agg (cGcoatsums x0_x)] []]))) (by first | (simp only [Tryz.results96, resV, resL, resV1, tgt_ptr, tgt_tp, uw, cr, tyf, nm, seval] <;> rfl) | rfl) ?_
 refine rr_tree ?_ ?_
 ·simp only [tre, tytre, tree_fn, cellsL_nil, mV_app, mV_app0, Bool.and_self]
 ·first | (simp only [outV, uw, showV_ref, cr, tyf, nrm, tynrm, showV_fn, normV_fn, normV_nilF, nm, seval] <;> rfl) | rfl
end Go.V
end
