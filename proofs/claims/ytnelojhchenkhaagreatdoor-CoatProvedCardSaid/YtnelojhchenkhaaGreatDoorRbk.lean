/- Part of a proof: a logic of values by content, lifted functions, what follows. -/
import Derived.Test.YtnelojhchenkhaaGreatDoorRbf
import Derived.Test.YtnelojhchenkhaaGreatDoorRbh
import Derived.Test.YtnelojhchenkhaaGreatDoorRbj
set_option linter.all false
set_option maxRecDepth 4000
set_option maxHeartbeats 4000000
section
namespace Go.V
open Go Go.Proofs
def g_slices_Clone_Int (xs : List Int) : Option (List Int) := cond (neB xs) (cond (roomOk 8 xs.length) (some xs) none) none
theorem g_slices_Clone_Int_ok (xs R : List Int) (h : g_slices_Clone_Int xs = some R) : VPure Tryz.prog G0 112 [.sl (cellsL eI xs) xs.length false] (.own (cellsL eI R) R.length 1) := by
 unfold g_slices_Clone_Int at h
 cases hn : neB xs with
 | false => rw [hn] at h; cases h
 | true =>
 cases hr : roomOk 8 xs.length with
 | false => rw [hn, hr] at h; cases h
 | true =>
 rw [hn, hr] at h
 simp only [cond_true, Option.some.injEq] at h
 subst h
 have hc : cellsL eI xs ≠ [] := by
  cases xs with
  | nil => cases hn
  | cons a l => intro hh; cases hh
 have hnil : ∀ (H : Nat → Option VObj) (x y : Operand), binV Tryz.prog H .eql 23 x y (.sl (cellsL eI xs) xs.length false) (.lit (.slice none 0 0)) = some (.lit (.bool false)) := fun H x y => binV_slNil Tryz.underlying23 hc
 have hb : vbuildSlice Tryz.prog 23 0 [] = some ([], 1) := by kernel_rfl
 refine VPure.run mixed Tryz.call112 Tryz.func112 rfl (by simp [Tryz.ntmps112]; kernel_rfl) ?_
 simp only [vz, tyf, hnil, hb, List.map_nil, seval]
 refine k_appS (w := 1) (enc := eI) (xs := ([] : List Int)) (ys := xs) (el := some 3) (fun _ => rfl) lf23 ao23 Tryz.underlying23 rfl hn (by rw [List.nil_append]; exact hr) ?_
 simp only [vz, tyf, List.nil_append, seval]
 refine ⟨rfl, .ref 5 0 xs.length 1 xs.length, by simp [Tryz.results112, resV, resL, resV1, upd], (cellsL eI xs).length + 1, 5, _, cellsL eI xs, ⟨_, rfl⟩, by simp only [updH_apply, without_apply, seval] <;> rfl, seal_tree _ _ (eI_ok.treeL xs) (Nat.lt_succ_self _)⟩
end Go.V
end
section
namespace Go.V
open Go Go.Proofs
def g_coat_sums_least (x0_x : Gcoatsums) (x1_from : Int) (x2_to : Int) : Option (Int) := Option.bind (getI x0_x.lows x2_to) (fun x1 => Option.bind (getI x0_x.lows x1_from) (fun x2 => some (IntKind.i64.wrap (x1 - x2))))
theorem g_coat_sums_least_ok (x0_x : Gcoatsums) (x1_from : Int) (x2_to : Int) (R : Int) (h : g_coat_sums_least x0_x x1_from x2_to = some R) : VPure Tryz.prog G0 106 [.agg (cGcoatsums x0_x), .lit (.int .i64 x1_from), .lit (.int .i64 x2_to)] (.tree (.lit (.int .i64 R))) := by
 refine VPure.runR mixed Tryz.call106 Tryz.func106 rfl (by simp [Tryz.ntmps106]; kernel_rfl) ?_
 obtain ⟨KF, h, kF, kN⟩ := fun_intro h
 simp only [g_coat_sums_least] at h
 simp only [vz, tyf, nm, seval]
 refine cwp_drwQF (fun tm => tm 1 = .lit (.int .i64 x1_from) ∧ tm 2 = .lit (.int .i64 x2_to) ∧ tm 3 = .ptr 0 0 ∧ True) (by refine ⟨?_, ?_, ?_, trivial⟩ <;> first | (simp only [ua, nm, seval] <;> rfl) | rfl) ?_
 rintro tm ⟨e3, e4, e5, _⟩
 rcases o7 : (getI x0_x.lows x2_to) with _ | x6
 ·simp only [o7, hs] at h
  exact absurd h kN
 simp only [o7, hs] at h
 rcases o9 : (getI x0_x.lows x1_from) with _ | x8
 ·simp only [o9, hs] at h
  exact absurd h kN
 simp only [o9, hs] at h
 try simp only [vz, tyf, e3, e4, e5, (ix23 o7), (ix23 o9), nm, seval]
 refine opd_ret (x := (.lit (.int .i64 (IntKind.i64.wrap (x6 - x8))))) (by first | (simp only [Tryz.results106, resV, resL, resV1, tgt_ptr, tgt_tp, uw, cr, tyf, (ix23 o7), (ix23 o9), nm, seval] <;> rfl) | rfl) ?_
 obtain rfl := kF _ h
 refine rr_tree ?_ ?_
 ·simp only [tre, tytre, Bool.and_self]
 ·first | (simp only [outV, uw, showV_ref, cr, tyf, nrm, tynrm, e3, e4, e5, (ix23 o7), (ix23 o9), nm, seval] <;> rfl) | rfl
end Go.V
end
section
namespace Go.V
open Go Go.Proofs
def g_coat_sums_greatest (x0_x : Gcoatsums) (x1_from : Int) (x2_to : Int) : Option (Int) := Option.bind (getI x0_x.highs x2_to) (fun x1 => Option.bind (getI x0_x.highs x1_from) (fun x2 => some (IntKind.i64.wrap (x1 - x2))))
theorem g_coat_sums_greatest_ok (x0_x : Gcoatsums) (x1_from : Int) (x2_to : Int) (R : Int) (h : g_coat_sums_greatest x0_x x1_from x2_to = some R) : VPure Tryz.prog G0 107 [.agg (cGcoatsums x0_x), .lit (.int .i64 x1_from), .lit (.int .i64 x2_to)] (.tree (.lit (.int .i64 R))) := by
 refine VPure.runR mixed Tryz.call107 Tryz.func107 rfl (by simp [Tryz.ntmps107]; kernel_rfl) ?_
 obtain ⟨KF, h, kF, kN⟩ := fun_intro h
 simp only [g_coat_sums_greatest] at h
 simp only [vz, tyf, nm, seval]
 refine cwp_drwQF (fun tm => tm 1 = .lit (.int .i64 x1_from) ∧ tm 2 = .lit (.int .i64 x2_to) ∧ tm 3 = .ptr 0 0 ∧ True) (by refine ⟨?_, ?_, ?_, trivial⟩ <;> first | (simp only [ua, nm, seval] <;> rfl) | rfl) ?_
 rintro tm ⟨e3, e4, e5, _⟩
 rcases o7 : (getI x0_x.highs x2_to) with _ | x6
 ·simp only [o7, hs] at h
  exact absurd h kN
 simp only [o7, hs] at h
 rcases o9 : (getI x0_x.highs x1_from) with _ | x8
 ·simp only [o9, hs] at h
  exact absurd h kN
 simp only [o9, hs] at h
 try simp only [vz, tyf, e3, e4, e5, (ix23 o7), (ix23 o9), nm, seval]
 refine opd_ret (x := (.lit (.int .i64 (IntKind.i64.wrap (x6 - x8))))) (by first | (simp only [Tryz.results107, resV, resL, resV1, tgt_ptr, tgt_tp, uw, cr, tyf, (ix23 o7), (ix23 o9), nm, seval] <;> rfl) | rfl) ?_
 obtain rfl := kF _ h
 refine rr_tree ?_ ?_
 ·simp only [tre, tytre, Bool.and_self]
 ·first | (simp only [outV, uw, showV_ref, cr, tyf, nrm, tynrm, e3, e4, e5, (ix23 o7), (ix23 o9), nm, seval] <;> rfl) | rfl
end Go.V
end
section
namespace Go.V
open Go Go.Proofs
def g_coat_sums_isLast (x0_x : Gcoatsums) (x1_coat : Int) : Option (Bool) := some (x1_coat == (IntKind.i64.wrap ((List.length x0_x.CoatSheet.Coats : Int) - 1)))
theorem g_coat_sums_isLast_ok (x0_x : Gcoatsums) (x1_coat : Int) (R : Bool) (h : g_coat_sums_isLast x0_x x1_coat = some R) : VPure Tryz.prog G0 165 [.agg (cGcoatsums x0_x), .lit (.int .i64 x1_coat)] (.tree (.lit (.bool R))) := by
 refine VPure.runR mixed Tryz.call165 Tryz.func165 rfl (by simp [Tryz.ntmps165]; kernel_rfl) ?_
 obtain ⟨KF, h, kF, kN⟩ := fun_intro h
 simp only [g_coat_sums_isLast] at h
 try simp only [vz, tyf, nm, seval]
 obtain rfl := kF _ h
 exact opd_bool Tryz.results165 rfl
end Go.V
end
section
namespace Go.V
open Go Go.Proofs
def g_coat_firstFailure_worst_l0 (x0_x : Gcoatsums) (r1 : List Int) : List Int → Int → Option (LOut (Gcoatfailure × Bool) (Unit))
 | [], c0_21 => some (.go ())
 | e0 :: p0, c0_21 => Option.bind (getI (r1 ++ [(List.length x0_x.CoatSheet.Dry : Int)]) c0_21) (fun x2 => Option.bind (getI (r1 ++ [(List.length x0_x.CoatSheet.Dry : Int)]) (c0_21 + 1)) (fun x3 => Option.bind (g_coat_sums_least x0_x x2 x3) (fun r4 => Option.bind (getI x0_x.CoatSheet.Coats c0_21) (fun x5 => cond (decide (r4 < x5.Need)) (some (.ret ((Gcoatfailure.mk c0_21 1), true))) (Option.bind (g_coat_sums_isLast x0_x c0_21) (fun r6 => cond (r6) (g_coat_firstFailure_worst_l0 x0_x r1 p0 (c0_21 + 1)) (Option.bind (g_coat_sums_greatest x0_x x2 x3) (fun r7 => cond (decide (r7 > x5.Peel)) (some (.ret ((Gcoatfailure.mk c0_21 2), true))) (g_coat_firstFailure_worst_l0 x0_x r1 p0 (c0_21 + 1))))))))))
def g_coat_firstFailure_worst (x0_x : Gcoatsums) (x2_plan : List Int) : Option (Gcoatfailure × Bool) := Option.bind (g_slices_Clone_Int x2_plan) (fun r1 => cond (roomOk 8 (List.length (r1 ++ [(List.length x0_x.CoatSheet.Dry : Int)]))) (cond (lenOk x2_plan) (lbind (g_coat_firstFailure_worst_l0 x0_x r1 x2_plan 0) (fun r9 => some r9) (fun c8 => some ((Gcoatfailure.mk 0 0), false)) (fun _ _ => none)) none) none)
theorem g_coat_firstFailure_worst_ok (x0_x : Gcoatsums) (x2_plan : List Int) (R : Gcoatfailure × Bool) (h : g_coat_firstFailure_worst x0_x x2_plan = some R) : VPure Tryz.prog G0 74 [.agg (cGcoatsums x0_x), .agg ([VV.lit Value.nilFunc] ++ [VV.fn (Fn.func 106) [.agg (cGcoatsums x0_x)] []] ++ [VV.fn (Fn.func 107) [.agg (cGcoatsums x0_x)] []]), .sl (cellsL eI x2_plan) (List.length x2_plan) false] (.tree (.tup [.agg (cGcoatfailure R.1), .lit (.bool R.2)])) := by
 refine VPure.runR mixed Tryz.call74 Tryz.func74 rfl (by simp [Tryz.ntmps74]; kernel_rfl) ?_
 obtain ⟨KF, h, kF, kN⟩ := fun_intro h
 simp only [g_coat_firstFailure_worst] at h
 simp only [vz, tyf, nm, seval]
 refine cwp_drawTF (fun tm => tm 2 = .sl (cellsL eI x2_plan) (List.length x2_plan) false ∧ tm 3 = .ptr 0 0 ∧ tm 4 = .ptr 1 0 ∧ tm 6 = .ptr 2 0 ∧ tm 7 = .ptr 3 0 ∧ True) (by refine ⟨?_, ?_, ?_, ?_, ?_, trivial⟩ <;> first | (simp only [ua, nm, seval] <;> rfl) | rfl) ?_
 rintro tm ⟨e10, e11, e12, e13, e14, _⟩
 rcases o16 : (g_slices_Clone_Int x2_plan) with _ | r15
 ·simp only [o16, hs] at h
  exact absurd h kN
 simp only [o16, hs] at h
 simp only [vz, tyf, e10, e11, e12, e13, e14, nm, seval]
 refine dkown (args0 := [.sl (cellsL eI x2_plan) (List.length x2_plan) false]) (by first | (simp only [nrm, tynrm] <;> rfl) | rfl) (by simp only [tre, tytre, Bool.and_self]) (g_slices_Clone_Int_ok _ _ o16) ?_
 cases g17 : (roomOk 8 (List.length (r15 ++ [(List.length x0_x.CoatSheet.Dry : Int)])))
 ·simp only [g17, hs] at h
  exact absurd h kN
 simp only [g17, hs] at h
 simp only [vz, tyf, e10, e11, e12, e13, e14, g17, nm, seval]
 refine k_app (w := 1) (enc := eI) (xs := r15) (ys := ([(List.length x0_x.CoatSheet.Dry : Int)])) (el := none) (el2 := (some 3)) (fun _ => rfl) lf23 ao23 Tryz.underlying23 (by first | rfl | assumption | (simp only [updH_apply, without_apply, et23, nm, seval] <;> rfl) | (simp only [updH_apply, without_apply, cellsL_cons, cellsL_nil, mV_app, mV_app0, tyf, e10, e11, e12, e13, e14, g17, nm, seval]; done)) (by first | rfl | assumption | (simp only [updH_apply, without_apply, et23, nm, seval] <;> rfl) | (simp only [updH_apply, without_apply, cellsL_cons, cellsL_nil, mV_app, mV_app0, tyf, e10, e11, e12, e13, e14, g17, nm, seval]; done)) (Nat.zero_lt_succ _) g17 ?_
 simp only [vz, tyf, e10, e11, e12, e13, e14, g17, nm, seval]
 refine drawK_nil ⟨?_, ?_⟩
 ·simp only [traceR_cons, traceR_nil, hitK_quiet, hitK_nil, and_true, true_and]
  repeat' (first | exact trivial | refine And.intro ?_ ?_ | rw [hitK_quiet] | rw [hitK_cons] | exact Or.inl (by decide +kernel) | exact Or.inl (by dsimp only; decide +kernel) | (refine Or.inr ⟨?_, ?_⟩ <;> simp; done) | (refine Or.inr ⟨?_, ?_⟩ <;> simp <;> omega) | (refine Or.inr ⟨?_, ?_⟩ <;> simp [VEff.wr] <;> omega))
 cases g19 : (lenOk x2_plan)
 ·simp only [g19, hs] at h
  exact absurd h kN
 simp only [g19, hs] at h
 simp only [vz, tyf, e10, e11, e12, e13, e14, g17, g19, nm, seval]
 obtain ⟨K18, h, kR18, kG18, kB18, kN18⟩ := lbind_intro h kN
 obtain ⟨f18, hf18, h⟩ := call2 h
 obtain ⟨I18, hI18⟩ : ∃ I : Nat → St → Prop, I = (fun m st => ∃ (p18 : List Int) (c18_21 : Int), m = List.length p18 ∧ 0 ≤ c18_21 ∧ List.drop (Int.toNat c18_21) x2_plan = p18 ∧ st.df = [.fn (.func 111) [.ptr 2 0, .ptr 3 0] []] ∧ 18 ≤ st.nx ∧ st.H 0 = some (.cells (some 80) (cGcoatsums x0_x)) ∧ st.H 1 = some (.cells (some 85) ([VV.lit Value.nilFunc] ++ [VV.fn (Fn.func 106) [.agg (cGcoatsums x0_x)] []] ++ [VV.fn (Fn.func 107) [.agg (cGcoatsums x0_x)] []])) ∧ st.H 2 = some (.cells (some 95) ([.lit (.int .i64 0)] ++ [.lit (.int .i64 0)])) ∧ st.H 3 = some (.cells (some 4) ([.lit (.bool false)])) ∧ st.H 13 = some (.cells ((sameEl none 3)) (cellsL eI (r15 ++ [(List.length x0_x.CoatSheet.Dry : Int)]))) ∧ st.tm 3 = .ptr 0 0 ∧ st.tm 4 = .ptr 1 0 ∧ st.tm 6 = .ptr 2 0 ∧ st.tm 7 = .ptr 3 0 ∧ st.tm 8 = .ref 13 0 (List.length (r15 ++ [(List.length x0_x.CoatSheet.Dry : Int)])) 1 (List.length (r15 ++ [(List.length x0_x.CoatSheet.Dry : Int)])) ∧ st.tm 20 = .lit (.int .i64 (List.length x2_plan : Int)) ∧ st.tm 21 = .lit (.int .i64 c18_21) ∧ K18 (f18 p18 c18_21)) := ⟨_, rfl⟩
 refine loopK mixed (by kernel_rfl) I18 (List.length x2_plan) (by rw [hI18]; refine ⟨x2_plan, 0, rfl, Int.le_refl _, rfl, rfl, (show 18 ≤ 18 by omega), ?_, ?_, ?_, ?_, ?_, e11, e12, e13, e14, ?_, ?_, ?_, h⟩ <;> first | (simp only [ua, e10, e11, e12, e13, e14, nm, seval] <;> rfl) | rfl) ?_
 rintro m ⟨tm, H, nx18, df⟩ hinv
 rw [hI18] at hinv
 obtain ⟨p18, c18_21, rfl, hi18, hp18, hdf, hn18, H20, H21, H22, H23, H24, e25, e26, e27, e28, e29, e30, e31, h⟩ := hinv
 simp only at hdf hn18 H20 H21 H22 H23 H24 e25 e26 e27 e28 e29 e30 e31
 have n32 := base_ne0 (m := 18) (b := nx18) (by omega)
 subst hdf hf18
 cases p18 with
 | nil =>
  have d33 : (decide (c18_21 < (List.length x2_plan : Int))) = false := not_lt_of_drop hi18 hp18
  simp only [g_coat_firstFailure_worst_l0, hs, reduceCtorEq] at h
  replace h := kG18 _ h
  try dsimp only at h
  try simp only [hs] at h
  try simp only [vz, tyf, g17, g19, n32, e25, e26, e27, e28, e29, e30, e31, H20, H21, H22, H23, H24, d33, nm, seval]
  refine opd_retD ?_
  refine VDeferred.run mixed Tryz.call111 Tryz.func111 rfl (by kernel_rfl) ?_
  try simp only [vz, tyf, g17, g19, n32, H20, H21, H22, H23, H24, d33, nm, seval]
  refine dpost_normal Tryz.results111 ?_
  refine afterD_ret (x := (.tup [.agg ([.lit (.int .i64 0)] ++ [.lit (.int .i64 0)]), .lit (.bool false)])) (by first | (simp only [Tryz.results74, resV, resL, resV1, tgt_ptr, tgt_tp, uw, cr, tyf, g17, g19, n32, H20, H21, H22, H23, H24, d33, e25, e26, e27, e28, e29, e30, e31, nm, seval] <;> rfl) | rfl) ?_
  obtain rfl := kF _ h
  refine rr_tree ?_ ?_
  ·simp only [tre, tytre, Bool.and_self]
  ·first | (simp only [outV, uw, showV_ref, cr, tyf, nrm, tynrm, g17, g19, n32, H20, H21, H22, H23, H24, d33, e25, e26, e27, e28, e29, e30, e31, nm, seval] <;> rfl) | rfl
 | cons e18 p18 =>
  have d34 : (decide (c18_21 < (List.length x2_plan : Int))) = true := lt_of_drop hi18 hp18
  have o36 := getI_of_drop hi18 hp18
  have w35 := wrap_next hi18 hp18 g19
  simp only [g_coat_firstFailure_worst_l0, hs, reduceCtorEq] at h
  simp only [vz, tyf, g17, g19, n32, e25, e26, e27, e28, e29, e30, e31, H20, H21, H22, H23, H24, d34, (ix23 o36), w35, nm, seval]
  refine cwp_cutF (fun tm => tm 3 = .ptr 0 0 ∧ tm 4 = .ptr 1 0 ∧ tm 6 = .ptr 2 0 ∧ tm 7 = .ptr 3 0 ∧ tm 8 = .ref 13 0 (List.length (r15 ++ [(List.length x0_x.CoatSheet.Dry : Int)])) 1 (List.length (r15 ++ [(List.length x0_x.CoatSheet.Dry : Int)])) ∧ tm 9 = .lit (.int .i64 c18_21) ∧ tm 20 = .lit (.int .i64 (List.length x2_plan : Int)) ∧ tm 21 = .lit (.int .i64 c18_21) ∧ True) (by refine ⟨e25, e26, e27, e28, e29, ?_, e30, e31, trivial⟩ <;> first | (simp only [ua, n32, e25, e26, e27, e28, e29, e30, e31, H20, H21, H22, H23, H24, d34, w35, nm, seval] <;> rfl) | rfl) ?_
  rintro tm ⟨e37, e38, e39, e40, e41, e42, e43, e44, _⟩
  have b45 := And.intro g17 (And.intro g19 (And.intro n32 (And.intro H20 (And.intro H21 (And.intro H22 (And.intro H23 (And.intro H24 (And.intro d34 w35))))))))
  refine cwp_drawS mixed 12 rfl rfl rfl (by kernel_rfl) ?_
  rcases o47 : (getI (r15 ++ [(List.length x0_x.CoatSheet.Dry : Int)]) c18_21) with _ | x46
  ·simp only [o47, hs] at h
   exact absurd h kN18
  simp only [o47, hs] at h
  rcases o49 : (getI (r15 ++ [(List.length x0_x.CoatSheet.Dry : Int)]) (c18_21 + 1)) with _ | x48
  ·simp only [o49, hs] at h
   exact absurd h kN18
  simp only [o49, hs] at h
  try simp only [vz, tyf, b45, (ix23 o36), e37, e38, e39, e40, e41, e42, e43, e44, (ixo23 o47), (ixo23 o49), nm, seval]
  refine kopen ?_
  rw [openK_eq]
  refine VOpen.run mixed Tryz.call113 Tryz.func113 rfl (by simp [Tryz.ntmps113]; kernel_rfl) ?_
  try simp only [vz, tyf, b45, (ix23 o36), (ixo23 o47), (ixo23 o49), nm, seval]
  refine kopen ?_
  rw [openK_eq]
  refine VOpen.run mixed Tryz.call136 Tryz.func136 rfl (by simp [Tryz.ntmps136]; kernel_rfl) ?_
  simp only [vz, tyf, b45, (ix23 o36), (ixo23 o47), (ixo23 o49), nm, seval]
  refine cwp_drwQF (fun tm => tm 2 = .lit (.int .i64 c18_21) ∧ tm 3 = .lit (.int .i64 x46) ∧ tm 4 = .lit (.int .i64 x48) ∧ tm 5 = .ptr (nx18 + 25) 0 ∧ tm 6 = .ptr (nx18 + 26) 0 ∧ True) (by refine ⟨?_, ?_, ?_, ?_, ?_, trivial⟩ <;> first | (simp only [ua, b45, nm, seval] <;> rfl) | rfl) ?_
  rintro tm ⟨e50, e51, e52, e53, e54, _⟩
  rcases o56 : (g_coat_sums_least x0_x x46 x48) with _ | r55
  ·simp only [o56, hs] at h
   exact absurd h kN18
  simp only [o56, hs] at h
  simp only [vz, tyf, b45, (ix23 o36), (ixo23 o47), (ixo23 o49), e50, e51, e52, e53, e54, nm, seval]
  refine dktree (args0 := [.agg (cGcoatsums x0_x), .lit (.int .i64 x46), .lit (.int .i64 x48)]) (by first | (simp only [nrm, tynrm] <;> rfl) | rfl) (by simp only [tre, tytre, Bool.and_self]) (g_coat_sums_least_ok _ _ _ _ o56) ?_
  refine fin_cut (fun tm => tm 2 = .lit (.int .i64 c18_21) ∧ tm 3 = .lit (.int .i64 x46) ∧ tm 4 = .lit (.int .i64 x48) ∧ tm 5 = .ptr (nx18 + 25) 0 ∧ tm 6 = .ptr (nx18 + 26) 0 ∧ tm 16 = .lit (.int .i64 r55) ∧ True) (by refine ⟨e50, e51, e52, e53, e54, ?_, trivial⟩ <;> first | (simp only [ua, b45, e50, e51, e52, e53, e54, nm, seval] <;> rfl) | rfl) ?_
  rintro tm ⟨e57, e58, e59, e60, e61, e62, _⟩
  rcases o64 : (getI x0_x.CoatSheet.Coats c18_21) with _ | x63
  ·simp only [o64, hs] at h
   exact absurd h kN18
  simp only [o64, hs] at h
  cases d65 : (decide (r55 < x63.Need))
  ·simp only [d65, hs] at h
   simp only [vz, tyf, b45, (ix23 o36), (ixo23 o47), (ixo23 o49), e57, e58, e59, e60, e61, e62, (ix24 o64), d65, nm, seval]
   refine cwp_drwQF (fun tm => tm 2 = .lit (.int .i64 c18_21) ∧ tm 3 = .lit (.int .i64 x46) ∧ tm 4 = .lit (.int .i64 x48) ∧ tm 5 = .ptr (nx18 + 25) 0 ∧ tm 6 = .ptr (nx18 + 26) 0 ∧ True) (by refine ⟨e57, e58, e59, e60, e61, trivial⟩ <;> first | (simp only [ua, b45, e57, e58, e59, e60, e61, e62, d65, nm, seval] <;> rfl) | rfl) ?_
   rintro tm ⟨e66, e67, e68, e69, e70, _⟩
   rcases o72 : (g_coat_sums_isLast x0_x c18_21) with _ | r71
   ·simp only [o72, hs] at h
    exact absurd h kN18
   simp only [o72, hs] at h
   simp only [vz, tyf, b45, (ix23 o36), (ixo23 o47), (ixo23 o49), (ix24 o64), d65, e66, e67, e68, e69, e70, nm, seval]
   refine dktree (args0 := [.agg (cGcoatsums x0_x), .lit (.int .i64 c18_21)]) (by first | (simp only [nrm, tynrm] <;> rfl) | rfl) (by simp only [tre, tytre, Bool.and_self]) (g_coat_sums_isLast_ok _ _ _ o72) ?_
   refine fin_cut (fun tm => tm 2 = .lit (.int .i64 c18_21) ∧ tm 3 = .lit (.int .i64 x46) ∧ tm 4 = .lit (.int .i64 x48) ∧ tm 5 = .ptr (nx18 + 25) 0 ∧ tm 6 = .ptr (nx18 + 26) 0 ∧ tm 28 = .lit (.bool r71) ∧ True) (by refine ⟨e66, e67, e68, e69, e70, ?_, trivial⟩ <;> first | (simp only [ua, b45, d65, e66, e67, e68, e69, e70, nm, seval] <;> rfl) | rfl) ?_
   rintro tm ⟨e73, e74, e75, e76, e77, e78, _⟩
   cases d79 : (r71)
   ·simp only [d79, hs] at h
    rcases o81 : (g_coat_sums_greatest x0_x x46 x48) with _ | r80
    ·simp only [o81, hs] at h
     exact absurd h kN18
    simp only [o81, hs] at h
    simp only [vz, tyf, b45, (ix23 o36), (ixo23 o47), (ixo23 o49), (ix24 o64), d65, e73, e74, e75, e76, e77, e78, d79, nm, seval]
    refine dktree (args0 := [.agg (cGcoatsums x0_x), .lit (.int .i64 x46), .lit (.int .i64 x48)]) (by first | (simp only [nrm, tynrm] <;> rfl) | rfl) (by simp only [tre, tytre, Bool.and_self]) (g_coat_sums_greatest_ok _ _ _ _ o81) ?_
    refine fin_cut (fun tm => tm 2 = .lit (.int .i64 c18_21) ∧ tm 5 = .ptr (nx18 + 25) 0 ∧ tm 30 = .lit (.bool true) ∧ tm 35 = .lit (.int .i64 r80) ∧ True) (by refine ⟨e73, e76, ?_, ?_, trivial⟩ <;> first | (simp only [ua, b45, d65, e73, e74, e75, e76, e77, e78, d79, nm, seval] <;> rfl) | rfl) ?_
    rintro tm ⟨e82, e83, e84, e85, _⟩
    cases d86 : (decide (r80 > x63.Peel))
    ·simp only [d86, hs] at h
     try simp only [vz, tyf, b45, (ix23 o36), (ixo23 o47), (ixo23 o49), (ix24 o64), d65, d79, e82, e83, e84, e85, d86, nm, seval]
     refine opd_ret (x := (.lit (.int .i64 0))) (by first | (simp only [Tryz.results136, resV, resL, resV1, tgt_ptr, tgt_tp, uw, cr, tyf, b45, (ix23 o36), (ixo23 o47), (ixo23 o49), (ix24 o64), d65, d79, d86, nm, seval] <;> rfl) | rfl) ?_
     try simp only [vz, tyf, b45, (ix23 o36), (ixo23 o47), (ixo23 o49), (ix24 o64), d65, d79, d86, nm, seval]
     refine opd_normal (x := (.tup [])) (by first | (simp only [Tryz.results113, resV, resL, resV1, tgt_ptr, tgt_tp, uw, cr, tyf, b45, (ix23 o36), (ixo23 o47), (ixo23 o49), (ix24 o64), d65, d79, d86, nm, seval] <;> rfl) | rfl) ?_
     simp only [vz, tyf, b45, (ix23 o36), (ixo23 o47), (ixo23 o49), (ix24 o64), d65, d79, d86, e37, e38, e39, e40, e41, e42, e43, e44, nm, seval]
     exact ⟨List.length p18, Nat.lt_succ_self _, by rw [hI18]; refine ⟨p18, c18_21 + 1, rfl, Int.le_trans hi18 (Int.le_add_one (Int.le_refl _)), drop_next hi18 hp18, rfl, (show 18 ≤ nx18 + 67 by omega), ?_, ?_, ?_, ?_, ?_, e37, e38, e39, e40, e41, e43, ?_, h⟩ <;> first | (simp only [ua, b45, d65, d79, d86, e37, e38, e39, e40, e41, e42, e43, e44, nm, seval] <;> rfl) | rfl⟩
    simp only [d86, hs] at h
    try simp only [vz, tyf, b45, (ix23 o36), (ixo23 o47), (ixo23 o49), (ix24 o64), d65, d79, e82, e83, e84, e85, d86, nm, seval]
    refine opd_ret (x := (.lit (.int .i64 2))) (by first | (simp only [Tryz.results136, resV, resL, resV1, tgt_ptr, tgt_tp, uw, cr, tyf, b45, (ix23 o36), (ixo23 o47), (ixo23 o49), (ix24 o64), d65, d79, d86, nm, seval] <;> rfl) | rfl) ?_
    simp only [vz, tyf, b45, (ix23 o36), (ixo23 o47), (ixo23 o49), (ix24 o64), d65, d79, d86, nm, seval]
    refine opd_panic ?_
    try simp only [vz, tyf, b45, (ix23 o36), (ixo23 o47), (ixo23 o49), (ix24 o64), d65, d79, d86, e37, e38, e39, e40, e41, e42, e43, e44, nm, seval]
    refine opd_panicD ?_
    refine VDeferred.run mixed Tryz.call111 Tryz.func111 rfl (by kernel_rfl) ?_
    try simp only [vz, tyf, b45, (ix23 o36), (ixo23 o47), (ixo23 o49), (ix24 o64), d65, d79, d86, nm, seval]
    refine dpost_normal Tryz.results111 ?_
    refine afterD_rec (x := (.tup [.agg ([.lit (.int .i64 c18_21)] ++ [.lit (.int .i64 2)]), .lit (.bool true)])) (by first | (simp only [Tryz.results74, resV, resL, resV1, tgt_ptr, tgt_tp, uw, cr, tyf, b45, (ix23 o36), (ixo23 o47), (ixo23 o49), (ix24 o64), d65, d79, d86, e37, e38, e39, e40, e41, e42, e43, e44, nm, seval] <;> rfl) | rfl) ?_
    replace h := kR18 _ h
    try dsimp only at h
    obtain rfl := kF _ h
    refine rr_tree ?_ ?_
    ·simp only [tre, tytre, Bool.and_self]
    ·first | (simp only [outV, uw, showV_ref, cr, tyf, nrm, tynrm, b45, (ix23 o36), (ixo23 o47), (ixo23 o49), (ix24 o64), d65, d79, d86, e37, e38, e39, e40, e41, e42, e43, e44, nm, seval] <;> rfl) | rfl
   simp only [d79, hs] at h
   try simp only [vz, tyf, b45, (ix23 o36), (ixo23 o47), (ixo23 o49), (ix24 o64), d65, e73, e74, e75, e76, e77, e78, d79, nm, seval]
   refine opd_ret (x := (.lit (.int .i64 0))) (by first | (simp only [Tryz.results136, resV, resL, resV1, tgt_ptr, tgt_tp, uw, cr, tyf, b45, (ix23 o36), (ixo23 o47), (ixo23 o49), (ix24 o64), d65, d79, nm, seval] <;> rfl) | rfl) ?_
   try simp only [vz, tyf, b45, (ix23 o36), (ixo23 o47), (ixo23 o49), (ix24 o64), d65, d79, nm, seval]
   refine opd_normal (x := (.tup [])) (by first | (simp only [Tryz.results113, resV, resL, resV1, tgt_ptr, tgt_tp, uw, cr, tyf, b45, (ix23 o36), (ixo23 o47), (ixo23 o49), (ix24 o64), d65, d79, nm, seval] <;> rfl) | rfl) ?_
   simp only [vz, tyf, b45, (ix23 o36), (ixo23 o47), (ixo23 o49), (ix24 o64), d65, d79, e37, e38, e39, e40, e41, e42, e43, e44, nm, seval]
   exact ⟨List.length p18, Nat.lt_succ_self _, by rw [hI18]; refine ⟨p18, c18_21 + 1, rfl, Int.le_trans hi18 (Int.le_add_one (Int.le_refl _)), drop_next hi18 hp18, rfl, (show 18 ≤ nx18 + 67 by omega), ?_, ?_, ?_, ?_, ?_, e37, e38, e39, e40, e41, e43, ?_, h⟩ <;> first | (simp only [ua, b45, d65, d79, e37, e38, e39, e40, e41, e42, e43, e44, nm, seval] <;> rfl) | rfl⟩
  simp only [d65, hs] at h
  try simp only [vz, tyf, b45, (ix23 o36), (ixo23 o47), (ixo23 o49), e57, e58, e59, e60, e61, e62, (ix24 o64), d65, nm, seval]
  refine opd_ret (x := (.lit (.int .i64 1))) (by first | (simp only [Tryz.results136, resV, resL, resV1, tgt_ptr, tgt_tp, uw, cr, tyf, b45, (ix23 o36), (ixo23 o47), (ixo23 o49), (ix24 o64), d65, nm, seval] <;> rfl) | rfl) ?_
  simp only [vz, tyf, b45, (ix23 o36), (ixo23 o47), (ixo23 o49), (ix24 o64), d65, nm, seval]
  refine opd_panic ?_
  try simp only [vz, tyf, b45, (ix23 o36), (ixo23 o47), (ixo23 o49), (ix24 o64), d65, e37, e38, e39, e40, e41, e42, e43, e44, nm, seval]
  refine opd_panicD ?_
  refine VDeferred.run mixed Tryz.call111 Tryz.func111 rfl (by kernel_rfl) ?_
  try simp only [vz, tyf, b45, (ix23 o36), (ixo23 o47), (ixo23 o49), (ix24 o64), d65, nm, seval]
  refine dpost_normal Tryz.results111 ?_
  refine afterD_rec (x := (.tup [.agg ([.lit (.int .i64 c18_21)] ++ [.lit (.int .i64 1)]), .lit (.bool true)])) (by first | (simp only [Tryz.results74, resV, resL, resV1, tgt_ptr, tgt_tp, uw, cr, tyf, b45, (ix23 o36), (ixo23 o47), (ixo23 o49), (ix24 o64), d65, e37, e38, e39, e40, e41, e42, e43, e44, nm, seval] <;> rfl) | rfl) ?_
  replace h := kR18 _ h
  try dsimp only at h
  obtain rfl := kF _ h
  refine rr_tree ?_ ?_
  ·simp only [tre, tytre, Bool.and_self]
  ·first | (simp only [outV, uw, showV_ref, cr, tyf, nrm, tynrm, b45, (ix23 o36), (ixo23 o47), (ixo23 o49), (ix24 o64), d65, e37, e38, e39, e40, e41, e42, e43, e44, nm, seval] <;> rfl) | rfl
end Go.V
end
section
namespace Go.V
open Go Go.Proofs
end Go.V
end
section
namespace Go.V
open Go Go.Proofs
theorem g_coat_sums_atWorst_ok (x0_x : Gcoatsums) : VPure Tryz.prog G0 62 [.agg (cGcoatsums x0_x)] (.tree (.agg ([VV.lit Value.nilFunc] ++ [VV.fn (Fn.func 106) [.agg (cGcoatsums x0_x)] []] ++ [VV.fn (Fn.func 107) [.agg (cGcoatsums x0_x)] []]))) := by
 refine VPure.runR mixed Tryz.call62 Tryz.func62 rfl (by simp [Tryz.ntmps62]; kernel_rfl) ?_
 try simp only [vz, tyf, nm, seval]
 refine opd_ret (x := (.agg ([VV.lit Value.nilFunc] ++ [VV.fn (Fn.func 106) [.agg (cGcoatsums x0_x)] []] ++ [VV.fn (Fn.func 107) [.agg (cGcoatsums x0_x)] []]))) (by first | (simp only [Tryz.results62, resV, resL, resV1, tgt_ptr, tgt_tp, uw, cr, tyf, nm, seval] <;> rfl) | rfl) ?_
 refine rr_tree ?_ ?_
 ·simp only [tre, tytre, tree_fn, cellsL_nil, mV_app, mV_app0, Bool.and_self]
 ·first | (simp only [outV, uw, showV_ref, cr, tyf, nrm, tynrm, showV_fn, normV_fn, normV_nilF, nm, seval] <;> rfl) | rfl
end Go.V
end
section
namespace Go.V
open Go Go.Proofs
def g_coat_surelyHolds (x0_s : GCoatSheet) (x1_plan : List Int) : Option (Bool) := Option.bind (g_coat_summed x0_s) (fun r1 => Option.bind (g_coat_firstFailure_worst r1 x1_plan) (fun r2 => some (!r2.2)))
theorem g_coat_surelyHolds_ok (x0_s : GCoatSheet) (x1_plan : List Int) (R : Bool) (h : g_coat_surelyHolds x0_s x1_plan = some R) : VPure Tryz.prog G0 72 [.agg (cGCoatSheet x0_s), .sl (cellsL eI x1_plan) (List.length x1_plan) false] (.tree (.lit (.bool R))) := by
 refine VPure.runR mixed Tryz.call72 Tryz.func72 rfl (by simp [Tryz.ntmps72]; kernel_rfl) ?_
 obtain ⟨KF, h, kF, kN⟩ := fun_intro h
 simp only [g_coat_surelyHolds] at h
 rcases o4 : (g_coat_summed x0_s) with _ | r3
 ·simp only [o4, hs] at h
  exact absurd h kN
 simp only [o4, hs] at h
 simp only [vz, tyf, nm, seval]
 refine ktree (args0 := [.agg (cGCoatSheet x0_s)]) (by first | (simp only [nrm, tynrm] <;> rfl) | rfl) (by simp only [tre, tytre, Bool.and_self]) (g_coat_summed_ok _ _ o4) ?_
 refine fin_cut (fun tm => tm 1 = .sl (cellsL eI x1_plan) (List.length x1_plan) false ∧ tm 7 = .agg (cGcoatsums r3) ∧ True) (by refine ⟨?_, ?_, trivial⟩ <;> first | (simp only [ua, nm, seval] <;> rfl) | rfl) ?_
 rintro tm ⟨e5, e6, _⟩
 simp only [vz, tyf, e5, e6, nm, seval]
 refine cwp_cutF (fun tm => tm 1 = .sl (cellsL eI x1_plan) (List.length x1_plan) false ∧ tm 5 = .ptr 4 0 ∧ True) (by refine ⟨e5, ?_, trivial⟩ <;> first | (simp only [ua, e5, e6, nm, seval] <;> rfl) | rfl) ?_
 rintro tm ⟨e7, e8, _⟩
 refine cwp_drawS mixed 4 rfl rfl rfl (by kernel_rfl) ?_
 simp only [vz, tyf, e7, e8, nm, seval]
 refine dktree (args0 := [.agg (cGcoatsums r3)]) (by first | (simp only [nrm, tynrm] <;> rfl) | rfl) (by simp only [tre, tytre, Bool.and_self]) (g_coat_sums_atWorst_ok _) ?_
 try simp only [vz, tyf, e7, e8, nm, seval]
 refine kopen ?_
 rw [openK_eq]
 refine VOpen.run mixed Tryz.call61 Tryz.func61 rfl (by simp [Tryz.ntmps61]; kernel_rfl) ?_
 rcases o10 : (g_coat_firstFailure_worst r3 x1_plan) with _ | r9
 ·simp only [o10, hs] at h
  exact absurd h kN
 simp only [o10, hs] at h
 simp only [vz, tyf, nm, seval]
 refine ktree (args0 := [.agg (cGcoatsums r3), .agg ([VV.lit Value.nilFunc] ++ [VV.fn (Fn.func 106) [.agg (cGcoatsums r3)] []] ++ [VV.fn (Fn.func 107) [.agg (cGcoatsums r3)] []]), .sl (cellsL eI x1_plan) (List.length x1_plan) false]) (by first | (simp only [nrm, tynrm, normV_fn, normV_nilF, mV_app, mV_app0] <;> rfl) | rfl) (by simp only [tre, tytre, tree_fn, mV_app, mV_app0, Bool.and_self]) (g_coat_firstFailure_worst_ok _ _ _ o10) ?_
 refine fin_cut (fun tm => tm 13 = .tup [.agg (cGcoatfailure r9.1), .lit (.bool r9.2)] ∧ True) (by refine ⟨?_, trivial⟩ <;> first | (simp only [ua, nm, seval] <;> rfl) | rfl) ?_
 rintro tm ⟨e11, _⟩
 try simp only [vz, tyf, e11, nm, seval]
 refine opd_ret (x := (.lit (.bool (!r9.2)))) (by first | (simp only [Tryz.results61, resV, resL, resV1, tgt_ptr, tgt_tp, uw, cr, tyf, nm, seval] <;> rfl) | rfl) ?_
 try simp only [vz, tyf, e7, e8, nm, seval]
 obtain rfl := kF _ h
 exact opd_bool Tryz.results72 rfl
end Go.V
end
section
namespace Go.V
open Go Go.Proofs
def g_ref03_Dries_l1  : List Int → Int → Int → Option (LOut (Int) (Int))
 | [], c1_9, c1_8 => some (.go c1_8)
 | e1 :: p1, c1_9, c1_8 => g_ref03_Dries_l1 p1 (c1_9 + 1) (IntKind.i64.wrap (c1_8 + e1))
def g_ref03_Dries_l0 (x2_weather : List Int) : Nat → Int → Int → Option (LOut (Int) (Int))
 | 0, c0_9, c0_8 => some (.go c0_8)
 | k0 + 1, c0_9, c0_8 => Option.bind (getI x2_weather c0_9) (fun x3 => g_ref03_Dries_l0 x2_weather k0 (c0_9 + 1) (IntKind.i64.wrap (c0_8 + x3)))
def g_ref03_Dries (x0_plan : List Int) (x1_coat : Int) (x2_weather : List Int) : Option (Int) := cond (decide ((IntKind.i64.wrap (x1_coat + 1)) < (List.length x0_plan : Int))) (Option.bind (getI x0_plan (IntKind.i64.wrap (x1_coat + 1))) (fun x1 => Option.bind (getI x0_plan x1_coat) (fun x2 => cond (boundOk x1) (cond (loOk x2) (lbind (g_ref03_Dries_l0 x2_weather (Int.toNat (x1 - x2)) x2 0) (fun r5 => some r5) (fun c4 => some c4) (fun _ _ => none)) none) none))) (Option.bind (getI x0_plan x1_coat) (fun x6 => cond (lenOk x2_weather) (cond (leB 0 x6) (lbind (g_ref03_Dries_l1 (List.drop (Int.toNat x6) x2_weather) x6 0) (fun r8 => some r8) (fun c7 => some c7) (fun _ _ => none)) none) none))
theorem g_ref03_Dries_ok (x0_plan : List Int) (x1_coat : Int) (x2_weather : List Int) (R : Int) (h : g_ref03_Dries x0_plan x1_coat x2_weather = some R) : VPure Tryz.prog G0 32 [.sl (cellsL eI x0_plan) (List.length x0_plan) false, .lit (.int .i64 x1_coat), .sl (cellsL eI x2_weather) (List.length x2_weather) false] (.tree (.lit (.int .i64 R))) := by
 refine VPure.runR mixed Tryz.call32 Tryz.func32 rfl (by simp [Tryz.ntmps32]; kernel_rfl) ?_
 obtain ⟨KF, h, kF, kN⟩ := fun_intro h
 simp only [g_ref03_Dries] at h
 cases d9 : (decide ((IntKind.i64.wrap (x1_coat + 1)) < (List.length x0_plan : Int)))
 ·simp only [d9, hs] at h
  rcases o11 : (getI x0_plan x1_coat) with _ | x10
  ·simp only [o11, hs] at h
   exact absurd h kN
  simp only [o11, hs] at h
  cases g13 : (lenOk x2_weather)
  ·simp only [g13, hs] at h
   exact absurd h kN
  simp only [g13, hs] at h
  cases g14 : (leB 0 x10)
  ·simp only [g14, hs] at h
   exact absurd h kN
  simp only [g14, hs] at h
  simp only [vz, tyf, d9, (ix23 o11), g13, g14, nm, seval]
  obtain ⟨K12, h, kR12, kG12, kB12, kN12⟩ := lbind_intro h kN
  obtain ⟨f12, hf12, h⟩ := call3 h
  obtain ⟨I12, hI12⟩ : ∃ I : Nat → St → Prop, I = (fun m st => ∃ (p12 : List Int) (c12_9 : Int) (c12_8 : Int), m = List.length p12 ∧ 0 ≤ c12_9 ∧ List.drop (Int.toNat c12_9) x2_weather = p12 ∧ st.df = [] ∧ 15 ≤ st.nx ∧ st.tm 2 = .sl (cellsL eI x2_weather) (List.length x2_weather) false ∧ st.tm 7 = .lit (.int .i64 (List.length x2_weather : Int)) ∧ st.tm 8 = .lit (.int .i64 c12_8) ∧ st.tm 9 = .lit (.int .i64 c12_9) ∧ K12 (f12 p12 c12_9 c12_8)) := ⟨_, rfl⟩
  refine loopK mixed (by kernel_rfl) I12 (List.length (List.drop (Int.toNat x10) x2_weather)) (by rw [hI12]; refine ⟨List.drop (Int.toNat x10) x2_weather, x10, 0, rfl, of_decide_eq_true g14, rfl, rfl, (show 15 ≤ 15 by omega), ?_, ?_, ?_, ?_, h⟩ <;> first | (simp only [ua, d9, nm, seval] <;> rfl) | rfl) ?_
  rintro m ⟨tm, H, nx12, df⟩ hinv
  rw [hI12] at hinv
  obtain ⟨p12, c12_9, c12_8, rfl, hi12, hp12, hdf, hn12, e15, e16, e17, e18, h⟩ := hinv
  simp only at hdf hn12 e15 e16 e17 e18
  have n19 := base_ne0 (m := 15) (b := nx12) (by omega)
  subst hdf hf12
  cases p12 with
  | nil =>
   have d20 : (decide (c12_9 < (List.length x2_weather : Int))) = false := not_lt_of_drop hi12 hp12
   simp only [g_ref03_Dries_l0, g_ref03_Dries_l1, hs, reduceCtorEq] at h
   replace h := kG12 _ h
   try dsimp only at h
   try simp only [hs] at h
   try simp only [vz, tyf, d9, (ix23 o11), g13, g14, n19, e15, e16, e17, e18, d20, nm, seval]
   refine opd_ret (x := (.lit (.int .i64 c12_8))) (by first | (simp only [Tryz.results32, resV, resL, resV1, tgt_ptr, tgt_tp, uw, cr, tyf, d9, (ix23 o11), g13, g14, n19, d20, nm, seval] <;> rfl) | rfl) ?_
   obtain rfl := kF _ h
   refine rr_tree ?_ ?_
   ·simp only [tre, tytre, Bool.and_self]
   ·first | (simp only [outV, uw, showV_ref, cr, tyf, nrm, tynrm, d9, (ix23 o11), g13, g14, n19, e15, e16, e17, e18, d20, nm, seval] <;> rfl) | rfl
  | cons e12 p12 =>
   have d21 : (decide (c12_9 < (List.length x2_weather : Int))) = true := lt_of_drop hi12 hp12
   have o23 := getI_of_drop hi12 hp12
   have w22 := wrap_next hi12 hp12 g13
   simp only [g_ref03_Dries_l0, g_ref03_Dries_l1, hs, reduceCtorEq] at h
   simp only [vz, tyf, d9, (ix23 o11), g13, g14, n19, e15, e16, e17, e18, d21, (ix23 o23), w22, nm, seval]
   exact ⟨List.length p12, Nat.lt_succ_self _, by rw [hI12]; refine ⟨p12, c12_9 + 1, IntKind.i64.wrap (c12_8 + e12), rfl, Int.le_trans hi12 (Int.le_add_one (Int.le_refl _)), drop_next hi12 hp12, rfl, (show 15 ≤ nx12 + 13 by omega), e15, e16, ?_, ?_, h⟩ <;> first | (simp only [ua, d9, n19, e15, e16, e17, e18, d21, w22, nm, seval] <;> rfl) | rfl⟩
 simp only [d9, hs] at h
 rcases o25 : (getI x0_plan (IntKind.i64.wrap (x1_coat + 1))) with _ | x24
 ·simp only [o25, hs] at h
  exact absurd h kN
 simp only [o25, hs] at h
 rcases o27 : (getI x0_plan x1_coat) with _ | x26
 ·simp only [o27, hs] at h
  exact absurd h kN
 simp only [o27, hs] at h
 cases g29 : (boundOk x24)
 ·simp only [g29, hs] at h
  exact absurd h kN
 simp only [g29, hs] at h
 cases g30 : (loOk x26)
 ·simp only [g30, hs] at h
  exact absurd h kN
 simp only [g30, hs] at h
 simp only [vz, tyf, d9, (ix23 o25), (ix23 o27), g29, g30, nm, seval]
 obtain ⟨K28, h, kR28, kG28, kB28, kN28⟩ := lbind_intro h kN
 obtain ⟨f28, hf28, h⟩ := call3 h
 obtain ⟨I28, hI28⟩ : ∃ I : Nat → St → Prop, I = (fun m st => ∃ (p28 : Nat) (c28_9 : Int) (c28_8 : Int), p28 = m ∧ loOk c28_9 = true ∧ Int.toNat (x24 - c28_9) = p28 ∧ st.df = [] ∧ 21 ≤ st.nx ∧ st.tm 2 = .sl (cellsL eI x2_weather) (List.length x2_weather) false ∧ st.tm 7 = .lit (.int .i64 x24) ∧ st.tm 8 = .lit (.int .i64 c28_8) ∧ st.tm 9 = .lit (.int .i64 c28_9) ∧ K28 (f28 p28 c28_9 c28_8)) := ⟨_, rfl⟩
 refine loopK mixed (by kernel_rfl) I28 (Int.toNat (x24 - x26)) (by rw [hI28]; refine ⟨Int.toNat (x24 - x26), x26, 0, rfl, g30, rfl, rfl, (show 21 ≤ 21 by omega), ?_, ?_, ?_, ?_, h⟩ <;> first | (simp only [ua, d9, nm, seval] <;> rfl) | rfl) ?_
 rintro m ⟨tm, H, nx28, df⟩ hinv
 rw [hI28] at hinv
 obtain ⟨p28, c28_9, c28_8, rfl, hi28, hp28, hdf, hn28, e31, e32, e33, e34, h⟩ := hinv
 simp only at hdf hn28 e31 e32 e33 e34
 have n35 := base_ne0 (m := 21) (b := nx28) (by omega)
 subst hdf hf28
 cases p28 with
 | zero =>
  have d36 : (decide (c28_9 < x24)) = false := cnt_not_lt hp28
  simp only [g_ref03_Dries_l0, g_ref03_Dries_l1, hs, reduceCtorEq] at h
  replace h := kG28 _ h
  try dsimp only at h
  try simp only [hs] at h
  try simp only [vz, tyf, d9, (ix23 o25), (ix23 o27), g29, g30, n35, e31, e32, e33, e34, d36, nm, seval]
  refine opd_ret (x := (.lit (.int .i64 c28_8))) (by first | (simp only [Tryz.results32, resV, resL, resV1, tgt_ptr, tgt_tp, uw, cr, tyf, d9, (ix23 o25), (ix23 o27), g29, g30, n35, d36, nm, seval] <;> rfl) | rfl) ?_
  obtain rfl := kF _ h
  refine rr_tree ?_ ?_
  ·simp only [tre, tytre, Bool.and_self]
  ·first | (simp only [outV, uw, showV_ref, cr, tyf, nrm, tynrm, d9, (ix23 o25), (ix23 o27), g29, g30, n35, e31, e32, e33, e34, d36, nm, seval] <;> rfl) | rfl
 | succ p28 =>
  have d37 : (decide (c28_9 < x24)) = true := cnt_lt hp28
  have w38 := cnt_wrap hi28 hp28 g29
  simp only [g_ref03_Dries_l0, g_ref03_Dries_l1, hs, reduceCtorEq] at h
  rcases o40 : (getI x2_weather c28_9) with _ | x39
  ·simp only [o40, hs] at h
   exact absurd h kN28
  simp only [o40, hs] at h
  simp only [vz, tyf, d9, (ix23 o25), (ix23 o27), g29, g30, n35, e31, e32, e33, e34, d37, w38, (ix23 o40), nm, seval]
  exact ⟨p28, Nat.lt_succ_self _, by rw [hI28]; refine ⟨p28, c28_9 + 1, IntKind.i64.wrap (c28_8 + x39), rfl, cnt_lo hi28, cnt_next hp28, rfl, (show 21 ≤ nx28 + 13 by omega), e31, e32, ?_, ?_, h⟩ <;> first | (simp only [ua, d9, n35, e31, e32, e33, e34, d37, w38, nm, seval] <;> rfl) | rfl⟩
end Go.V
end
section
namespace Go.V
open Go Go.Proofs
end Go.V
end
section
namespace Go.V
open Go Go.Proofs
end Go.V
end
section
namespace Go.V
open Go Go.Proofs
end Go.V
end
section
namespace Go.V
open Go Go.Proofs
def g_ref03_Lows_l0  : List GSpan → Int → (List Int) → Option (LOut (List Int) ((List Int)))
 | [], c0_4, c0_3 => some (.go c0_3)
 | e0 :: p0, c0_4, c0_3 => cond (roomOk 8 (List.length (c0_3 ++ [e0.Low]))) (g_ref03_Lows_l0 p0 (c0_4 + 1) (c0_3 ++ [e0.Low])) none
def g_ref03_Lows (x0_s : GCoatSheet) : Option (List Int) := cond (lenOk x0_s.Dry) (lbind (g_ref03_Lows_l0 x0_s.Dry 0 ([] : List Int)) (fun r2 => some r2) (fun c1 => some c1) (fun _ _ => none)) none
theorem g_ref03_Lows_ok (x0_s : GCoatSheet) (R : List Int) (h : g_ref03_Lows x0_s = some R) : VPure Tryz.prog G0 33 [.agg (cGCoatSheet x0_s)] (.tree (.sl (cellsL eI R) (List.length R) false)) := by
 refine VPure.runR mixed Tryz.call33 Tryz.func33 rfl (by simp [Tryz.ntmps33]; kernel_rfl) ?_
 obtain ⟨KF, h, kF, kN⟩ := fun_intro h
 simp only [g_ref03_Lows] at h
 cases g4 : (lenOk x0_s.Dry)
 ·simp only [g4, hs] at h
  exact absurd h kN
 simp only [g4, hs] at h
 simp only [vz, tyf, g4, nm, seval]
 obtain ⟨K3, h, kR3, kG3, kB3, kN3⟩ := lbind_intro h kN
 obtain ⟨f3, hf3, h⟩ := call3 h
 obtain ⟨I3, hI3⟩ : ∃ I : Nat → St → Prop, I = (fun m st => ∃ (p3 : List GSpan) (c3_4 : Int) (c3_3 : List Int) (y3_0 : VV), m = List.length p3 ∧ 0 ≤ c3_4 ∧ List.drop (Int.toNat c3_4) x0_s.Dry = p3 ∧ st.df = [] ∧ 4 ≤ st.nx ∧ st.H 0 = some (.cells (some 26) (cGCoatSheet x0_s)) ∧ st.tm 1 = .ptr 0 0 ∧ st.tm 3 = y3_0 ∧ st.tm 4 = .lit (.int .i64 c3_4) ∧ ((∃ (β : Nat) (el : Option TypeId), y3_0 = .ref β 0 (List.length c3_3) 1 (List.length c3_3) ∧ β < st.nx ∧ β ≠ 0 ∧ st.H β = some (.cells el (cellsL eI c3_3))) ∨ (y3_0 = .lit (.slice none 0 0) ∧ c3_3 = [])) ∧ K3 (f3 p3 c3_4 c3_3)) := ⟨_, rfl⟩
 refine loopK mixed (by kernel_rfl) I3 (List.length x0_s.Dry) (by rw [hI3]; refine ⟨x0_s.Dry, 0, ([] : List Int), .lit (.slice none 0 0), rfl, Int.le_refl _, rfl, rfl, (show 4 ≤ 4 by omega), ?_, ?_, ?_, ?_, Or.inr ⟨rfl, rfl⟩, h⟩ <;> first | (simp only [ua, nm, seval] <;> rfl) | rfl) ?_
 rintro m ⟨tm, H, nx3, df⟩ hinv
 rw [hI3] at hinv
 obtain ⟨p3, c3_4, c3_3, y3_0, rfl, hi3, hp3, hdf, hn3, H5, e6, e7, e8, ow3_0, h⟩ := hinv
 simp only at hdf hn3 H5 e6 e7 e8 ow3_0
 have n9 := base_ne0 (m := 4) (b := nx3) (by omega)
 subst hdf hf3
 rcases ow3_0 with ⟨b3_0, el3_0, rfl, lq11, lq12, H10⟩ | ⟨rfl, rfl⟩
 ·have q11 := own_lt lq11
  have q12 := ne_f lq12
  cases p3 with
  | nil =>
   have d13 : (decide (c3_4 < (List.length x0_s.Dry : Int))) = false := not_lt_of_drop hi3 hp3
   simp only [g_ref03_Lows_l0, hs, reduceCtorEq] at h
   replace h := kG3 _ h
   try dsimp only at h
   try simp only [hs] at h
   try simp only [vz, tyf, g4, n9, e6, e7, e8, H5, q11, H10, q12, d13, nm, seval]
   refine opd_ret (x := (.ref b3_0 0 (List.length c3_3) 1 (List.length c3_3))) (by first | (simp only [Tryz.results33, resV, resL, resV1, tgt_ptr, tgt_tp, uw, cr, tyf, g4, n9, H5, q11, H10, q12, d13, nm, seval] <;> rfl) | rfl) ?_
   obtain rfl := kF _ h
   refine rr_tree ?_ ?_
   ·simp only [tre, tytre, Bool.and_self]
   ·first | (simp only [outV, uw, showV_ref, cr, tyf, nrm, tynrm, g4, n9, e6, e7, e8, H5, q11, H10, q12, d13, nm, seval] <;> rfl) | rfl
  | cons e3 p3 =>
   have d14 : (decide (c3_4 < (List.length x0_s.Dry : Int))) = true := lt_of_drop hi3 hp3
   have o16 := getI_of_drop hi3 hp3
   have w15 := wrap_next hi3 hp3 g4
   simp only [g_ref03_Lows_l0, hs, reduceCtorEq] at h
   cases g17 : (roomOk 8 (List.length (c3_3 ++ [e3.Low])))
   ·simp only [g17, hs] at h
    exact absurd h kN3
   simp only [g17, hs] at h
   simp only [vz, tyf, g4, n9, e6, e7, e8, H5, q11, H10, q12, d14, (ix22 o16), w15, g17, nm, seval]
   refine k_app (w := 1) (enc := eI) (xs := c3_3) (ys := ([e3.Low])) (el := el3_0) (el2 := (some 3)) (fun _ => rfl) lf23 ao23 Tryz.underlying23 (by first | rfl | assumption | (simp only [updH_apply, without_apply, et23, n9, H5, q11, H10, q12, nm, seval] <;> rfl) | (simp only [updH_apply, without_apply, cellsL_cons, cellsL_nil, mV_app, mV_app0, tyf, g4, n9, e6, e7, e8, H5, q11, H10, q12, d14, (ix22 o16), w15, g17, nm, seval]; done)) (by first | rfl | assumption | (simp only [updH_apply, without_apply, et23, n9, H5, q11, H10, q12, nm, seval] <;> rfl) | (simp only [updH_apply, without_apply, cellsL_cons, cellsL_nil, mV_app, mV_app0, tyf, g4, n9, e6, e7, e8, H5, q11, H10, q12, d14, (ix22 o16), w15, g17, nm, seval]; done)) (Nat.zero_lt_succ _) g17 ?_
   simp only [vz, tyf, g4, n9, e6, e7, e8, H5, q11, H10, q12, d14, (ix22 o16), w15, g17, nm, seval]
   exact ⟨List.length p3, Nat.lt_succ_self _, by rw [hI3]; refine ⟨p3, c3_4 + 1, (c3_3 ++ [e3.Low]), .ref (nx3 + 13) 0 (List.length (c3_3 ++ [e3.Low])) 1 (List.length (c3_3 ++ [e3.Low])), rfl, Int.le_trans hi3 (Int.le_add_one (Int.le_refl _)), drop_next hi3 hp3, rfl, (show 4 ≤ nx3 + 18 by omega), ?_, e6, ?_, ?_, Or.inl ⟨nx3 + 13, (sameEl el3_0 3), rfl, (by first | omega | (simp only [nm, seval]; omega)), (by first | omega | (intro hh; simp only [n9, q11, q12, reduceCtorEq] at hh)), ?_⟩, h⟩ <;> first | (simp only [ua, n9, e6, e7, e8, H5, q11, H10, q12, d14, w15, nm, seval] <;> rfl) | rfl⟩
 ·cases p3 with
  | nil =>
   have d18 : (decide (c3_4 < (List.length x0_s.Dry : Int))) = false := not_lt_of_drop hi3 hp3
   simp only [g_ref03_Lows_l0, hs, reduceCtorEq] at h
   replace h := kG3 _ h
   try dsimp only at h
   try simp only [hs] at h
   try simp only [vz, tyf, g4, n9, e6, e7, e8, H5, d18, nm, seval]
   refine opd_ret (x := (.lit (.slice none 0 0))) (by first | (simp only [Tryz.results33, resV, resL, resV1, tgt_ptr, tgt_tp, uw, cr, tyf, g4, n9, H5, d18, nm, seval] <;> rfl) | rfl) ?_
   obtain rfl := kF _ h
   refine rr_tree ?_ ?_
   ·simp only [tre, tytre, Bool.and_self]
   ·first | (simp only [outV, uw, showV_ref, cr, tyf, nrm, tynrm, g4, n9, e6, e7, e8, H5, d18, nm, seval] <;> rfl) | rfl
  | cons e3 p3 =>
   have d19 : (decide (c3_4 < (List.length x0_s.Dry : Int))) = true := lt_of_drop hi3 hp3
   have o21 := getI_of_drop hi3 hp3
   have w20 := wrap_next hi3 hp3 g4
   simp only [g_ref03_Lows_l0, hs, reduceCtorEq] at h
   cases g22 : (roomOk 8 (List.length (([] : List Int) ++ [e3.Low])))
   ·simp only [g22, hs] at h
    exact absurd h kN3
   simp only [g22, hs] at h
   simp only [vz, tyf, g4, n9, e6, e7, e8, H5, d19, (ix22 o21), w20, g22, nm, seval]
   refine k_appN (w := 1) (enc := eI) (ys := ([e3.Low])) (el2 := (some 3)) (fun _ => rfl) lf23 ao23 Tryz.underlying23 (by first | rfl | assumption | (simp only [updH_apply, without_apply, et23, n9, H5, nm, seval] <;> rfl) | (simp only [updH_apply, without_apply, cellsL_cons, cellsL_nil, mV_app, mV_app0, tyf, g4, n9, e6, e7, e8, H5, d19, (ix22 o21), w20, g22, nm, seval]; done)) (Nat.zero_lt_succ _) g22 ?_
   simp only [vz, tyf, g4, n9, e6, e7, e8, H5, d19, (ix22 o21), w20, g22, nm, seval]
   exact ⟨List.length p3, Nat.lt_succ_self _, by rw [hI3]; refine ⟨p3, c3_4 + 1, (([] : List Int) ++ [e3.Low]), .ref (nx3 + 13) 0 (List.length (([] : List Int) ++ [e3.Low])) 1 (List.length (([] : List Int) ++ [e3.Low])), rfl, Int.le_trans hi3 (Int.le_add_one (Int.le_refl _)), drop_next hi3 hp3, rfl, (show 4 ≤ nx3 + 18 by omega), ?_, e6, ?_, ?_, Or.inl ⟨nx3 + 13, (some 3), rfl, (by first | omega | (simp only [nm, seval]; omega)), (by first | omega | (intro hh; simp only [n9, reduceCtorEq] at hh)), ?_⟩, h⟩ <;> first | (simp only [ua, n9, e6, e7, e8, H5, d19, w20, nm, seval] <;> rfl) | rfl⟩
end Go.V
end
section
namespace Go.V
open Go Go.Proofs
def g_ref03_Highs_l0  : List GSpan → Int → (List Int) → Option (LOut (List Int) ((List Int)))
 | [], c0_4, c0_3 => some (.go c0_3)
 | e0 :: p0, c0_4, c0_3 => cond (roomOk 8 (List.length (c0_3 ++ [e0.High]))) (g_ref03_Highs_l0 p0 (c0_4 + 1) (c0_3 ++ [e0.High])) none
def g_ref03_Highs (x0_s : GCoatSheet) : Option (List Int) := cond (lenOk x0_s.Dry) (lbind (g_ref03_Highs_l0 x0_s.Dry 0 ([] : List Int)) (fun r2 => some r2) (fun c1 => some c1) (fun _ _ => none)) none
theorem g_ref03_Highs_ok (x0_s : GCoatSheet) (R : List Int) (h : g_ref03_Highs x0_s = some R) : VPure Tryz.prog G0 34 [.agg (cGCoatSheet x0_s)] (.tree (.sl (cellsL eI R) (List.length R) false)) := by
 refine VPure.runR mixed Tryz.call34 Tryz.func34 rfl (by simp [Tryz.ntmps34]; kernel_rfl) ?_
 obtain ⟨KF, h, kF, kN⟩ := fun_intro h
 simp only [g_ref03_Highs] at h
 cases g4 : (lenOk x0_s.Dry)
 ·simp only [g4, hs] at h
  exact absurd h kN
 simp only [g4, hs] at h
 simp only [vz, tyf, g4, nm, seval]
 obtain ⟨K3, h, kR3, kG3, kB3, kN3⟩ := lbind_intro h kN
 obtain ⟨f3, hf3, h⟩ := call3 h
 obtain ⟨I3, hI3⟩ : ∃ I : Nat → St → Prop, I = (fun m st => ∃ (p3 : List GSpan) (c3_4 : Int) (c3_3 : List Int) (y3_0 : VV), m = List.length p3 ∧ 0 ≤ c3_4 ∧ List.drop (Int.toNat c3_4) x0_s.Dry = p3 ∧ st.df = [] ∧ 4 ≤ st.nx ∧ st.H 0 = some (.cells (some 26) (cGCoatSheet x0_s)) ∧ st.tm 1 = .ptr 0 0 ∧ st.tm 3 = y3_0 ∧ st.tm 4 = .lit (.int .i64 c3_4) ∧ ((∃ (β : Nat) (el : Option TypeId), y3_0 = .ref β 0 (List.length c3_3) 1 (List.length c3_3) ∧ β < st.nx ∧ β ≠ 0 ∧ st.H β = some (.cells el (cellsL eI c3_3))) ∨ (y3_0 = .lit (.slice none 0 0) ∧ c3_3 = [])) ∧ K3 (f3 p3 c3_4 c3_3)) := ⟨_, rfl⟩
 refine loopK mixed (by kernel_rfl) I3 (List.length x0_s.Dry) (by rw [hI3]; refine ⟨x0_s.Dry, 0, ([] : List Int), .lit (.slice none 0 0), rfl, Int.le_refl _, rfl, rfl, (show 4 ≤ 4 by omega), ?_, ?_, ?_, ?_, Or.inr ⟨rfl, rfl⟩, h⟩ <;> first | (simp only [ua, nm, seval] <;> rfl) | rfl) ?_
 rintro m ⟨tm, H, nx3, df⟩ hinv
 rw [hI3] at hinv
 obtain ⟨p3, c3_4, c3_3, y3_0, rfl, hi3, hp3, hdf, hn3, H5, e6, e7, e8, ow3_0, h⟩ := hinv
 simp only at hdf hn3 H5 e6 e7 e8 ow3_0
 have n9 := base_ne0 (m := 4) (b := nx3) (by omega)
 subst hdf hf3
 rcases ow3_0 with ⟨b3_0, el3_0, rfl, lq11, lq12, H10⟩ | ⟨rfl, rfl⟩
 ·have q11 := own_lt lq11
  have q12 := ne_f lq12
  cases p3 with
  | nil =>
   have d13 : (decide (c3_4 < (List.length x0_s.Dry : Int))) = false := not_lt_of_drop hi3 hp3
   simp only [g_ref03_Highs_l0, hs, reduceCtorEq] at h
   replace h := kG3 _ h
   try dsimp only at h
   try simp only [hs] at h
   try simp only [vz, tyf, g4, n9, e6, e7, e8, H5, q11, H10, q12, d13, nm, seval]
   refine opd_ret (x := (.ref b3_0 0 (List.length c3_3) 1 (List.length c3_3))) (by first | (simp only [Tryz.results34, resV, resL, resV1, tgt_ptr, tgt_tp, uw, cr, tyf, g4, n9, H5, q11, H10, q12, d13, nm, seval] <;> rfl) | rfl) ?_
   obtain rfl := kF _ h
   refine rr_tree ?_ ?_
   ·simp only [tre, tytre, Bool.and_self]
   ·first | (simp only [outV, uw, showV_ref, cr, tyf, nrm, tynrm, g4, n9, e6, e7, e8, H5, q11, H10, q12, d13, nm, seval] <;> rfl) | rfl
  | cons e3 p3 =>
   have d14 : (decide (c3_4 < (List.length x0_s.Dry : Int))) = true := lt_of_drop hi3 hp3
   have o16 := getI_of_drop hi3 hp3
   have w15 := wrap_next hi3 hp3 g4
   simp only [g_ref03_Highs_l0, hs, reduceCtorEq] at h
   cases g17 : (roomOk 8 (List.length (c3_3 ++ [e3.High])))
   ·simp only [g17, hs] at h
    exact absurd h kN3
   simp only [g17, hs] at h
   simp only [vz, tyf, g4, n9, e6, e7, e8, H5, q11, H10, q12, d14, (ix22 o16), w15, g17, nm, seval]
   refine k_app (w := 1) (enc := eI) (xs := c3_3) (ys := ([e3.High])) (el := el3_0) (el2 := (some 3)) (fun _ => rfl) lf23 ao23 Tryz.underlying23 (by first | rfl | assumption | (simp only [updH_apply, without_apply, et23, n9, H5, q11, H10, q12, nm, seval] <;> rfl) | (simp only [updH_apply, without_apply, cellsL_cons, cellsL_nil, mV_app, mV_app0, tyf, g4, n9, e6, e7, e8, H5, q11, H10, q12, d14, (ix22 o16), w15, g17, nm, seval]; done)) (by first | rfl | assumption | (simp only [updH_apply, without_apply, et23, n9, H5, q11, H10, q12, nm, seval] <;> rfl) | (simp only [updH_apply, without_apply, cellsL_cons, cellsL_nil, mV_app, mV_app0, tyf, g4, n9, e6, e7, e8, H5, q11, H10, q12, d14, (ix22 o16), w15, g17, nm, seval]; done)) (Nat.zero_lt_succ _) g17 ?_
   simp only [vz, tyf, g4, n9, e6, e7, e8, H5, q11, H10, q12, d14, (ix22 o16), w15, g17, nm, seval]
   exact ⟨List.length p3, Nat.lt_succ_self _, by rw [hI3]; refine ⟨p3, c3_4 + 1, (c3_3 ++ [e3.High]), .ref (nx3 + 13) 0 (List.length (c3_3 ++ [e3.High])) 1 (List.length (c3_3 ++ [e3.High])), rfl, Int.le_trans hi3 (Int.le_add_one (Int.le_refl _)), drop_next hi3 hp3, rfl, (show 4 ≤ nx3 + 18 by omega), ?_, e6, ?_, ?_, Or.inl ⟨nx3 + 13, (sameEl el3_0 3), rfl, (by first | omega | (simp only [nm, seval]; omega)), (by first | omega | (intro hh; simp only [n9, q11, q12, reduceCtorEq] at hh)), ?_⟩, h⟩ <;> first | (simp only [ua, n9, e6, e7, e8, H5, q11, H10, q12, d14, w15, nm, seval] <;> rfl) | rfl⟩
 ·cases p3 with
  | nil =>
   have d18 : (decide (c3_4 < (List.length x0_s.Dry : Int))) = false := not_lt_of_drop hi3 hp3
   simp only [g_ref03_Highs_l0, hs, reduceCtorEq] at h
   replace h := kG3 _ h
   try dsimp only at h
   try simp only [hs] at h
   try simp only [vz, tyf, g4, n9, e6, e7, e8, H5, d18, nm, seval]
   refine opd_ret (x := (.lit (.slice none 0 0))) (by first | (simp only [Tryz.results34, resV, resL, resV1, tgt_ptr, tgt_tp, uw, cr, tyf, g4, n9, H5, d18, nm, seval] <;> rfl) | rfl) ?_
   obtain rfl := kF _ h
   refine rr_tree ?_ ?_
   ·simp only [tre, tytre, Bool.and_self]
   ·first | (simp only [outV, uw, showV_ref, cr, tyf, nrm, tynrm, g4, n9, e6, e7, e8, H5, d18, nm, seval] <;> rfl) | rfl
  | cons e3 p3 =>
   have d19 : (decide (c3_4 < (List.length x0_s.Dry : Int))) = true := lt_of_drop hi3 hp3
   have o21 := getI_of_drop hi3 hp3
   have w20 := wrap_next hi3 hp3 g4
   simp only [g_ref03_Highs_l0, hs, reduceCtorEq] at h
   cases g22 : (roomOk 8 (List.length (([] : List Int) ++ [e3.High])))
   ·simp only [g22, hs] at h
    exact absurd h kN3
   simp only [g22, hs] at h
   simp only [vz, tyf, g4, n9, e6, e7, e8, H5, d19, (ix22 o21), w20, g22, nm, seval]
   refine k_appN (w := 1) (enc := eI) (ys := ([e3.High])) (el2 := (some 3)) (fun _ => rfl) lf23 ao23 Tryz.underlying23 (by first | rfl | assumption | (simp only [updH_apply, without_apply, et23, n9, H5, nm, seval] <;> rfl) | (simp only [updH_apply, without_apply, cellsL_cons, cellsL_nil, mV_app, mV_app0, tyf, g4, n9, e6, e7, e8, H5, d19, (ix22 o21), w20, g22, nm, seval]; done)) (Nat.zero_lt_succ _) g22 ?_
   simp only [vz, tyf, g4, n9, e6, e7, e8, H5, d19, (ix22 o21), w20, g22, nm, seval]
   exact ⟨List.length p3, Nat.lt_succ_self _, by rw [hI3]; refine ⟨p3, c3_4 + 1, (([] : List Int) ++ [e3.High]), .ref (nx3 + 13) 0 (List.length (([] : List Int) ++ [e3.High])) 1 (List.length (([] : List Int) ++ [e3.High])), rfl, Int.le_trans hi3 (Int.le_add_one (Int.le_refl _)), drop_next hi3 hp3, rfl, (show 4 ≤ nx3 + 18 by omega), ?_, e6, ?_, ?_, Or.inl ⟨nx3 + 13, (some 3), rfl, (by first | omega | (simp only [nm, seval]; omega)), (by first | omega | (intro hh; simp only [n9, reduceCtorEq] at hh)), ?_⟩, h⟩ <;> first | (simp only [ua, n9, e6, e7, e8, H5, d19, w20, nm, seval] <;> rfl) | rfl⟩
end Go.V
end
section
namespace Go.V
open Go Go.Proofs
end Go.V
end
section
namespace Go.V
open Go Go.Proofs
end Go.V
end
section
namespace Go.V
open Go Go.Proofs
end Go.V
end
