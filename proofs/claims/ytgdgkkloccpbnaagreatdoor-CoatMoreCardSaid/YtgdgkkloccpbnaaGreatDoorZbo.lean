/- Part of a proof: a logic of values by content, lifted functions, what follows. -/
import Derived.Test.YtgdgkkloccpbnaaGreatDoorZbf
import Derived.Test.YtgdgkkloccpbnaaGreatDoorZbh
import Derived.Test.YtgdgkkloccpbnaaGreatDoorZbn
import Derived.Test.YtgdgkkloccpbnaaGreatDoorZbi
import Derived.Test.YtgdgkkloccpbnaaGreatDoorZbk
import Derived.Test.YtgdgkkloccpbnaaGreatDoorZbm
import Derived.Test.YtgdgkkloccpbnaaGreatDoorZbj
set_option linter.all false
set_option maxRecDepth 4000
set_option maxHeartbeats 40000000
section
namespace Go.V
open Go Go.Proofs
def g_coat_Quick_1 (x0_a : List Int) (x1_b : List Int) : Option (Bool) := Option.bind (g_coat_length x0_a) (fun r1 => Option.bind (g_coat_length x1_b) (fun r2 => some (decide (r1 < r2))))
theorem g_coat_Quick_1_ok (x0_a : List Int) (x1_b : List Int) (R : Bool) (h : g_coat_Quick_1 x0_a x1_b = some R) : VPure Tryz.prog G0 70 [.sl (cellsL eI x0_a) (List.length x0_a) false, .sl (cellsL eI x1_b) (List.length x1_b) false] (.tree (.lit (.bool R))) := by
 refine VPure.runR mixed Tryz.call70 Tryz.func70 rfl (by simp [Tryz.ntmps70]; kernel_rfl) ?_
 obtain ⟨KF, h, kF, kN⟩ := fun_intro h
 simp only [g_coat_Quick_1] at h
 rcases o4 : (g_coat_length x0_a) with _ | r3
 ·simp only [o4, hs] at h
  exact absurd h kN
 simp only [o4, hs] at h
 simp only [vz, tyf, nm, seval]
 refine ktree (args0 := [.sl (cellsL eI x0_a) (List.length x0_a) false]) (by first | (simp only [nrm, tynrm] <;> rfl) | rfl) (by simp only [tre, tytre, Bool.and_self]) (g_coat_length_ok _ _ o4) ?_
 refine fin_cut (fun tm => tm 1 = .sl (cellsL eI x1_b) (List.length x1_b) false ∧ tm 6 = .lit (.int .i64 r3) ∧ True) (by refine ⟨?_, ?_, trivial⟩ <;> first | (simp only [ua, nm, seval] <;> rfl) | rfl) ?_
 rintro tm ⟨e5, e6, _⟩
 rcases o8 : (g_coat_length x1_b) with _ | r7
 ·simp only [o8, hs] at h
  exact absurd h kN
 simp only [o8, hs] at h
 simp only [vz, tyf, e5, e6, nm, seval]
 refine ktree (args0 := [.sl (cellsL eI x1_b) (List.length x1_b) false]) (by first | (simp only [nrm, tynrm] <;> rfl) | rfl) (by simp only [tre, tytre, Bool.and_self]) (g_coat_length_ok _ _ o8) ?_
 refine fin_cut (fun tm => tm 6 = .lit (.int .i64 r3) ∧ tm 8 = .lit (.int .i64 r7) ∧ True) (by refine ⟨e6, ?_, trivial⟩ <;> first | (simp only [ua, e5, e6, nm, seval] <;> rfl) | rfl) ?_
 rintro tm ⟨e9, e10, _⟩
 try simp only [vz, tyf, e9, e10, nm, seval]
 obtain rfl := kF _ h
 exact opd_bool Tryz.results70 rfl
end Go.V
end
section
namespace Go.V
open Go
set_option linter.unusedVariables false
end Go.V
end
section
namespace Go.V
open Go Go.Proofs
end Go.V
end
section
namespace Go.V
open Go Go.Proofs
end Go.V
end
section
namespace Go.V
open Go Go.Proofs
end Go.V
end
section
namespace Go.V
open Go Go.Proofs
end Go.V
end
section
namespace Go.V
open Go Go.Proofs
set_option linter.unusedSimpArgs false
set_option linter.unusedVariables false
set_option maxRecDepth 4000
set_option maxHeartbeats 4000000
theorem ktreeP {P : Program} {G : Glob} {f : FuncId} {args : List VV} {x : VV} {d : Option Tmp} {γ : Nat} {tm : Nat → VV} {H : Nat → Option VObj} {nx : Nat} {df : List VDef} {K : St → Prop} {Qp : VV → St → Prop} (ht : treeL args = true) (hp : VPure P G f args (.tree x)) (h : fin d γ tm H nx df K x .none) : callK P G f args ⟨tm, H, nx, df⟩ d γ K Qp := by
 refine .inl ⟨ht, .tree x, hp, ?_⟩
 rw [← fin_eq (K := K), stepTo_none] at h
 exact h
end Go.V
end
section
namespace Go.V
open Go Go.Proofs
def g_coat_Quick (s : GCoatSheet) : Option (Int × Int) := Option.bind (g_coat_isSheet s) fun b1 => cond b1
 (Option.bind (g_coat_summed s) fun x => Option.bind (it_coat_plans x) fun L => Option.bind (bestO g_coat_Quick_1 L ([], false)) fun r => cond r.2 (Option.bind (g_coat_length r.1) fun n => some (n, 0)) (some (0, 5)))
 (some (0, 2))
theorem g_coat_Quick_ok (s : GCoatSheet) (R : Int × Int) (h : g_coat_Quick s = some R) : VPure Tryz.prog G0 28 [.agg (cGCoatSheet s)] (.tree (.tup [.lit (.int .i64 R.1), .lit (.int .i64 R.2)])) := by
 refine VPure.runR mixed Tryz.call28 Tryz.func28 rfl (by simp [Tryz.ntmps28]; kernel_rfl) ?_
 unfold g_coat_Quick at h
 rcases o1 : g_coat_isSheet s with _ | b1
 ·rw [o1] at h; cases h
 rw [o1, Option.bind_some] at h
 simp only [vz, tyf, seval, nm, ua, rg]
 refine ktree (args0 := [.agg (cGCoatSheet s)]) (by first | (simp only [nrm, tynrm] <;> rfl) | rfl) (by simp only [tre, tytre, Bool.and_self]) (g_coat_isSheet_ok _ _ o1) ?_
 cases b1 with
 | false =>
  simp only [cond_false, Option.some.injEq] at h
  subst h
  simp only [vz, tyf, seval, nm, ua, rg, Bool.not_false]
  refine opd_ret (x := .tup [.lit (.int .i64 0), .lit (.int .i64 2)]) (by simp only [Tryz.results28, resV, resL, resV1, tgt_ptr, tgt_tp, uw, cr, tyf, nm, seval] <;> rfl) ?_
  refine rr_tree (by simp only [tre, tytre]; rfl) ?_
  simp only [outV, nrm, seval, List.map_cons, List.map_nil, cellsL_nil, List.length_nil]
 | true =>
 rw [cond_true] at h
 simp only [vz, tyf, seval, nm, ua, rg, Bool.not_true]
 rcases o2 : g_coat_summed s with _ | x
 ·rw [o2] at h; cases h
 rw [o2, Option.bind_some] at h
 rcases o5 : it_coat_plans x with _ | L
 ·rw [o5] at h; cases h
 rw [o5, Option.bind_some] at h
 rcases o6 : bestO g_coat_Quick_1 L ([], false) with _ | r
 ·rw [o6] at h; cases h
 rw [o6, Option.bind_some] at h
 obtain ⟨itv, hti, hp, hit⟩ := it_coat_plans_ok x L o5
 have hbo := bestOf_ok (bf := 70) (mc := []) hit rfl (better := g_coat_Quick_1) (fun a b t ht => g_coat_Quick_1_ok a b t ht) r o6
 refine ktree (args0 := [.agg (cGCoatSheet s)]) (by first | (simp only [nrm, tynrm] <;> rfl) | rfl) (by simp only [tre, tytre, Bool.and_self]) (g_coat_summed_ok _ _ o2) ?_
 simp only [vz, tyf, seval, nm, ua, rg]
 refine ktree (args0 := [.agg (cGcoatsums x)]) (by first | (simp only [nrm, tynrm] <;> rfl) | rfl) (by simp only [tre, tytre, Bool.and_self]) hp ?_
 simp only [vz, tyf, seval, nm, ua, rg]
 refine ktreeP (by simp [treeL, VV.tree, hti]) hbo ?_
 simp only [vz, tyf, seval, nm, ua, rg]
 obtain ⟨r1, r2⟩ := r
 cases r2 with
 | false =>
  simp only [cond_false, Option.some.injEq] at h
  subst h
  simp only [vz, tyf, seval, nm, ua, rg, Bool.not_false]
  refine opd_ret (x := .tup [.lit (.int .i64 0), .lit (.int .i64 5)]) (by simp only [Tryz.results28, resV, resL, resV1, uw, nm, seval] <;> rfl) ?_
  refine rr_tree (by simp only [tre, tytre, Bool.and_self]) ?_
  simp only [outV, nrm, seval, List.map_cons, List.map_nil, cellsL_nil, List.length_nil]
 | true =>
  simp only [cond_true] at h
  rcases o7 : g_coat_length r1 with _ | n
  ·rw [o7] at h; cases h
  rw [o7, Option.bind_some, Option.some.injEq] at h
  subst h
  simp only [vz, tyf, seval, nm, ua, rg, Bool.not_true]
  refine ktree (args0 := [sI r1]) (by first | (simp only [nrm, tynrm] <;> rfl) | rfl) (by simp only [tre, tytre, Bool.and_self]) (g_coat_length_ok _ _ o7) ?_
  simp only [vz, tyf, seval, nm, ua, rg]
  refine opd_ret (x := .tup [.lit (.int .i64 n), .lit (.int .i64 0)]) (by simp only [Tryz.results28, resV, resL, resV1, uw, nm, seval] <;> rfl) ?_
  refine rr_tree (by simp only [tre, tytre, Bool.and_self]) ?_
  simp only [outV, nrm, seval, List.map_cons, List.map_nil]
end Go.V
end
section
set_option linter.unusedVariables false
namespace Go.V
open Go
theorem vlen_y {y : VV} (hy : nilS y = .sl [] 0 true) (P : Program) (H : Nat → Option VObj) (t : TypeId) : vlen P H t y = vlen P H t (.lit (.slice none 0 0)) := by
 rcases nilS_some hy with rfl | rfl
 ·rfl
 ·unfold vlen
  cases P.underlying t with
  | none => rfl
  | some d => cases d <;> simp [sls]
end Go.V
namespace Go.V
theorem len0 {α : Type} : ((([] : List α).length : Nat) : Int) = 0 := rfl
end Go.V
namespace Go.V
open Go
theorem wr01 : IntKind.i64.wrap (0 + 1) = 1 := by decide
end Go.V
end
section
namespace Go.V
open Go Go.Proofs
def g_law03_with_l0 (x1_n : Int) : List Int → Int → (List Int) → Option (LOut (List Int) ((List Int)))
 | [], c0_6, c0_5 => some (.go c0_5)
 | e0 :: p0, c0_6, c0_5 => cond (decide (e0 < x1_n)) (cond (roomOk 8 (List.length (c0_5 ++ [e0]))) (g_law03_with_l0 x1_n p0 (c0_6 + 1) (c0_5 ++ [e0])) none) (some (.go c0_5))
def g_law03_with (x0_l : List Int) (x1_n : Int) : Option (List Int) := cond (lenOk x0_l) (lbind (g_law03_with_l0 x1_n x0_l 0 ([] : List Int)) (fun r6 => some r6) (fun c1 => cond (roomOk 8 (List.length (c1 ++ [x1_n]))) (cond (decide ((List.length c1 : Int) < (List.length x0_l : Int))) (Option.bind (getI x0_l (List.length c1 : Int)) (fun x2 => cond (x2 == x1_n) (Option.bind (sliceO x0_l (IntKind.i64.wrap ((List.length c1 : Int) + 1)) (List.length x0_l : Int)) (fun s3 => cond (neB s3) (cond (roomOk 8 (List.length ((c1 ++ [x1_n]) ++ s3))) (some ((c1 ++ [x1_n]) ++ s3)) none) (some (c1 ++ [x1_n])))) (Option.bind (sliceO x0_l (List.length c1 : Int) (List.length x0_l : Int)) (fun s4 => cond (neB s4) (cond (roomOk 8 (List.length ((c1 ++ [x1_n]) ++ s4))) (some ((c1 ++ [x1_n]) ++ s4)) none) (some (c1 ++ [x1_n])))))) (Option.bind (sliceO x0_l (List.length c1 : Int) (List.length x0_l : Int)) (fun s5 => cond (neB s5) (cond (roomOk 8 (List.length ((c1 ++ [x1_n]) ++ s5))) (some ((c1 ++ [x1_n]) ++ s5)) none) (some (c1 ++ [x1_n]))))) none) (fun _ _ => none)) none
theorem g_law03_with_ok (x0_l : List Int) (x1_n : Int) (R : List Int) (h : g_law03_with x0_l x1_n = some R) : VPure Tryz.prog G0 46 [.sl (cellsL eI x0_l) (List.length x0_l) false, .lit (.int .i64 x1_n)] (.tree (.sl (cellsL eI R) (List.length R) false)) := by
 refine VPure.runR mixed Tryz.call46 Tryz.func46 rfl (by simp [Tryz.ntmps46]; kernel_rfl) ?_
 obtain ⟨KF, h, kF, kN⟩ := fun_intro h
 simp only [g_law03_with] at h
 cases g8 : (lenOk x0_l)
 ·simp only [g8, hs] at h
  exact absurd h kN
 simp only [g8, hs] at h
 simp only [vz, fin_updS, tyf, g8, nm, seval]
 obtain ⟨K7, h, kR7, kG7, kB7, kN7⟩ := lbind_intro h kN
 obtain ⟨f7, hf7, h⟩ := call3 h
 obtain ⟨I7, hI7⟩ : ∃ I : Nat → St → Prop, I = (fun m st => ∃ (p7 : List Int) (c7_6 : Int) (c7_5 : List Int) (y7_0 : VV), m = List.length p7 ∧ 0 ≤ c7_6 ∧ List.drop (Int.toNat c7_6) x0_l = p7 ∧ st.df = [] ∧ 3 ≤ st.nx ∧ st.tm 0 = .sl (cellsL eI x0_l) (List.length x0_l) false ∧ st.tm 1 = .lit (.int .i64 x1_n) ∧ st.tm 5 = y7_0 ∧ st.tm 6 = .lit (.int .i64 c7_6) ∧ ((∃ (β : Nat) (el : Option TypeId), y7_0 = .ref β 0 (List.length c7_5) 1 (List.length c7_5) ∧ β < st.nx ∧ st.H β = some (.cells el (cellsL eI c7_5))) ∨ (nilS y7_0 = .sl [] 0 true ∧ c7_5 = [])) ∧ K7 (f7 p7 c7_6 c7_5)) := ⟨_, rfl⟩
 refine loopK mixed (by kernel_rfl) I7 (List.length x0_l) (by rw [hI7]; refine ⟨x0_l, 0, ([] : List Int), .lit (.slice none 0 0), rfl, Int.le_refl _, rfl, rfl, (show 3 ≤ 3 by omega), ?_, ?_, ?_, ?_, Or.inr ⟨rfl, rfl⟩, h⟩ <;> first | (simp only [ua, nm, seval] <;> rfl) | rfl) ?_
 rintro m ⟨tm, H, nx7, df⟩ hinv
 rw [hI7] at hinv
 obtain ⟨p7, c7_6, c7_5, y7_0, rfl, hi7, hp7, hdf, hn7, e9, e10, e11, e12, ow7_0, h⟩ := hinv
 simp only at hdf hn7 e9 e10 e11 e12 ow7_0
 have n13 := base_ne0 (m := 3) (b := nx7) (by omega)
 subst hdf hf7
 rcases ow7_0 with ⟨b7_0, el7_0, rfl, lq15, H14⟩ | ⟨hy_q15, rfl⟩
 ·have q15 := own_lt lq15
  cases p7 with
  | nil =>
   have d16 : (decide (c7_6 < (List.length x0_l : Int))) = false := not_lt_of_drop hi7 hp7
   simp only [g_law03_with_l0, hs, reduceCtorEq] at h
   replace h := kG7 _ h
   try dsimp only at h
   try simp only [hs] at h
   cases g17 : (roomOk 8 (List.length (c7_5 ++ [x1_n])))
   ·simp only [g17, hs] at h
    exact absurd h kN
   simp only [g17, hs] at h
   simp only [vz, fin_updS, tyf, g8, n13, e9, e10, e11, e12, q15, H14, d16, g17, nm, seval]
   refine k_app (w := 1) (enc := eI) (xs := c7_5) (ys := ([x1_n])) (el := el7_0) (el2 := (some 3)) (fun _ => rfl) lf23 ao23 Tryz.underlying23 (by first | rfl | assumption | (simp only [updH_apply, without_apply, et23, n13, q15, H14, nm, seval] <;> rfl) | (simp only [updH_apply, without_apply, cellsL_cons, cellsL_nil, mV_app, mV_app0, tyf, g8, n13, e9, e10, e11, e12, q15, H14, d16, g17, nm, seval]; done)) (by first | rfl | assumption | (simp only [updH_apply, without_apply, et23, n13, q15, H14, nm, seval] <;> rfl) | (simp only [updH_apply, without_apply, cellsL_cons, cellsL_nil, mV_app, mV_app0, tyf, g8, n13, e9, e10, e11, e12, q15, H14, d16, g17, nm, seval]; done)) (Nat.zero_lt_succ _) g17 ?_
   cases d18 : (decide ((List.length c7_5 : Int) < (List.length x0_l : Int)))
   ·simp only [d18, hs] at h
    have b19 := And.intro g8 (And.intro n13 (And.intro q15 (And.intro H14 (And.intro d16 (And.intro g17 d18)))))
    rcases o21 : (sliceO x0_l (List.length c7_5 : Int) (List.length x0_l : Int)) with _ | s20
    ·simp only [o21, hs] at h
     exact absurd h kN
    simp only [o21, hs] at h
    try simp only [vz, fin_updS, tyf, b19, e9, e10, e11, e12, nm, seval]
    refine k_slT (w := 1) (enc := eI) (xs := x0_l) Tryz.underlying23 (by kernel_rfl) (fun _ => rfl) (by first | (simp only [ev_tmp, ev_func, ev_int, upd_apply, b19, e9, e10, e11, e12, nm, seval] <;> rfl) | rfl) (.inr ⟨.i64, by simp only [Option.map_some]; exact congrArg some (by first | (simp only [ev_tmp, ev_func, ev_int, upd_apply, b19, e9, e10, e11, e12, nm, seval] <;> rfl) | rfl)⟩) (.inl ⟨rfl, rfl⟩) o21 ?_
    cases d22 : (neB s20)
    ·simp only [d22, hs] at h
     simp only [vz, fin_updS, tyf, b19, e9, e10, e11, e12, d22, nm, seval]
     refine k_appSE (w := 1) (enc := eI) (xs := (c7_5 ++ [x1_n])) (ys := s20) (el := (sameEl el7_0 3)) (fun _ => rfl) lf23 ao23 Tryz.underlying23 (by first | rfl | assumption | (simp only [updH_apply, without_apply, et23, b19, nm, seval] <;> rfl) | (simp only [updH_apply, without_apply, cellsL_cons, cellsL_nil, mV_app, mV_app0, tyf, b19, e9, e10, e11, e12, d22, nm, seval]; done)) d22 ?_
     try simp only [vz, fin_updS, tyf, b19, e9, e10, e11, e12, d22, nm, seval]
     refine opd_ret (x := (.ref (nx7 + 18) 0 (List.length (c7_5 ++ [x1_n])) 1 (List.length (c7_5 ++ [x1_n])))) (by first | (simp only [Tryz.results46, resV, resL, resV1, tgt_ptr, tgt_tp, uw, cr, tyf, b19, d22, nm, seval] <;> rfl) | rfl) ?_
     obtain rfl := kF _ h
     refine rr_tree ?_ ?_
     ·simp only [tre, tytre, Bool.and_self]
     ·first | (simp only [outV, uw, showV_ref, cr, tyf, nrm, tynrm, b19, e9, e10, e11, e12, d22, nm, seval] <;> rfl) | rfl
    simp only [d22, hs] at h
    cases g23 : (roomOk 8 (List.length ((c7_5 ++ [x1_n]) ++ s20)))
    ·simp only [g23, hs] at h
     exact absurd h kN
    simp only [g23, hs] at h
    simp only [vz, fin_updS, tyf, b19, e9, e10, e11, e12, d22, g23, nm, seval]
    refine k_appS (w := 1) (enc := eI) (xs := (c7_5 ++ [x1_n])) (ys := s20) (el := (sameEl el7_0 3)) (fun _ => rfl) lf23 ao23 Tryz.underlying23 (by first | rfl | assumption | (simp only [updH_apply, without_apply, et23, b19, nm, seval] <;> rfl) | (simp only [updH_apply, without_apply, cellsL_cons, cellsL_nil, mV_app, mV_app0, tyf, b19, e9, e10, e11, e12, d22, g23, nm, seval]; done)) d22 g23 ?_
    try simp only [vz, fin_updS, tyf, b19, e9, e10, e11, e12, d22, g23, nm, seval]
    refine opd_ret (x := (.ref (nx7 + 36) 0 (List.length ((c7_5 ++ [x1_n]) ++ s20)) 1 (List.length ((c7_5 ++ [x1_n]) ++ s20)))) (by first | (simp only [Tryz.results46, resV, resL, resV1, tgt_ptr, tgt_tp, uw, cr, tyf, b19, d22, g23, nm, seval] <;> rfl) | rfl) ?_
    obtain rfl := kF _ h
    refine rr_tree ?_ ?_
    ·simp only [tre, tytre, Bool.and_self]
    ·first | (simp only [outV, uw, showV_ref, cr, tyf, nrm, tynrm, b19, e9, e10, e11, e12, d22, g23, nm, seval] <;> rfl) | rfl
   simp only [d18, hs] at h
   have b24 := And.intro g8 (And.intro n13 (And.intro q15 (And.intro H14 (And.intro d16 (And.intro g17 d18)))))
   rcases o26 : (getI x0_l (List.length c7_5 : Int)) with _ | x25
   ·simp only [o26, hs] at h
    exact absurd h kN
   simp only [o26, hs] at h
   cases d27 : (x25 == x1_n)
   ·simp only [d27, hs] at h
    rcases o29 : (sliceO x0_l (List.length c7_5 : Int) (List.length x0_l : Int)) with _ | s28
    ·simp only [o29, hs] at h
     exact absurd h kN
    simp only [o29, hs] at h
    try simp only [vz, fin_updS, tyf, b24, e9, e10, e11, e12, (ix23 o26), d27, nm, seval]
    refine k_slT (w := 1) (enc := eI) (xs := x0_l) Tryz.underlying23 (by kernel_rfl) (fun _ => rfl) (by first | (simp only [ev_tmp, ev_func, ev_int, upd_apply, b24, e9, e10, e11, e12, (ix23 o26), d27, nm, seval] <;> rfl) | rfl) (.inr ⟨.i64, by simp only [Option.map_some]; exact congrArg some (by first | (simp only [ev_tmp, ev_func, ev_int, upd_apply, b24, e9, e10, e11, e12, (ix23 o26), d27, nm, seval] <;> rfl) | rfl)⟩) (.inl ⟨rfl, rfl⟩) o29 ?_
    cases d30 : (neB s28)
    ·simp only [d30, hs] at h
     simp only [vz, fin_updS, tyf, b24, e9, e10, e11, e12, (ix23 o26), d27, d30, nm, seval]
     refine k_appSE (w := 1) (enc := eI) (xs := (c7_5 ++ [x1_n])) (ys := s28) (el := (sameEl el7_0 3)) (fun _ => rfl) lf23 ao23 Tryz.underlying23 (by first | rfl | assumption | (simp only [updH_apply, without_apply, et23, b24, nm, seval] <;> rfl) | (simp only [updH_apply, without_apply, cellsL_cons, cellsL_nil, mV_app, mV_app0, tyf, b24, e9, e10, e11, e12, (ix23 o26), d27, d30, nm, seval]; done)) d30 ?_
     try simp only [vz, fin_updS, tyf, b24, e9, e10, e11, e12, (ix23 o26), d27, d30, nm, seval]
     refine opd_ret (x := (.ref (nx7 + 18) 0 (List.length (c7_5 ++ [x1_n])) 1 (List.length (c7_5 ++ [x1_n])))) (by first | (simp only [Tryz.results46, resV, resL, resV1, tgt_ptr, tgt_tp, uw, cr, tyf, b24, (ix23 o26), d27, d30, nm, seval] <;> rfl) | rfl) ?_
     obtain rfl := kF _ h
     refine rr_tree ?_ ?_
     ·simp only [tre, tytre, Bool.and_self]
     ·first | (simp only [outV, uw, showV_ref, cr, tyf, nrm, tynrm, b24, e9, e10, e11, e12, (ix23 o26), d27, d30, nm, seval] <;> rfl) | rfl
    simp only [d30, hs] at h
    cases g31 : (roomOk 8 (List.length ((c7_5 ++ [x1_n]) ++ s28)))
    ·simp only [g31, hs] at h
     exact absurd h kN
    simp only [g31, hs] at h
    simp only [vz, fin_updS, tyf, b24, e9, e10, e11, e12, (ix23 o26), d27, d30, g31, nm, seval]
    refine k_appS (w := 1) (enc := eI) (xs := (c7_5 ++ [x1_n])) (ys := s28) (el := (sameEl el7_0 3)) (fun _ => rfl) lf23 ao23 Tryz.underlying23 (by first | rfl | assumption | (simp only [updH_apply, without_apply, et23, b24, nm, seval] <;> rfl) | (simp only [updH_apply, without_apply, cellsL_cons, cellsL_nil, mV_app, mV_app0, tyf, b24, e9, e10, e11, e12, (ix23 o26), d27, d30, g31, nm, seval]; done)) d30 g31 ?_
    try simp only [vz, fin_updS, tyf, b24, e9, e10, e11, e12, (ix23 o26), d27, d30, g31, nm, seval]
    refine opd_ret (x := (.ref (nx7 + 36) 0 (List.length ((c7_5 ++ [x1_n]) ++ s28)) 1 (List.length ((c7_5 ++ [x1_n]) ++ s28)))) (by first | (simp only [Tryz.results46, resV, resL, resV1, tgt_ptr, tgt_tp, uw, cr, tyf, b24, (ix23 o26), d27, d30, g31, nm, seval] <;> rfl) | rfl) ?_
    obtain rfl := kF _ h
    refine rr_tree ?_ ?_
    ·simp only [tre, tytre, Bool.and_self]
    ·first | (simp only [outV, uw, showV_ref, cr, tyf, nrm, tynrm, b24, e9, e10, e11, e12, (ix23 o26), d27, d30, g31, nm, seval] <;> rfl) | rfl
   simp only [d27, hs] at h
   rcases o33 : (sliceO x0_l (IntKind.i64.wrap ((List.length c7_5 : Int) + 1)) (List.length x0_l : Int)) with _ | s32
   ·simp only [o33, hs] at h
    exact absurd h kN
   simp only [o33, hs] at h
   try simp only [vz, fin_updS, tyf, b24, e9, e10, e11, e12, (ix23 o26), d27, nm, seval]
   refine k_slT (w := 1) (enc := eI) (xs := x0_l) Tryz.underlying23 (by kernel_rfl) (fun _ => rfl) (by first | (simp only [ev_tmp, ev_func, ev_int, upd_apply, b24, e9, e10, e11, e12, (ix23 o26), d27, nm, seval] <;> rfl) | rfl) (.inr ⟨.i64, by simp only [Option.map_some]; exact congrArg some (by first | (simp only [ev_tmp, ev_func, ev_int, upd_apply, b24, e9, e10, e11, e12, (ix23 o26), d27, nm, seval] <;> rfl) | rfl)⟩) (.inl ⟨rfl, rfl⟩) o33 ?_
   cases d34 : (neB s32)
   ·simp only [d34, hs] at h
    simp only [vz, fin_updS, tyf, b24, e9, e10, e11, e12, (ix23 o26), d27, d34, nm, seval]
    refine k_appSE (w := 1) (enc := eI) (xs := (c7_5 ++ [x1_n])) (ys := s32) (el := (sameEl el7_0 3)) (fun _ => rfl) lf23 ao23 Tryz.underlying23 (by first | rfl | assumption | (simp only [updH_apply, without_apply, et23, b24, nm, seval] <;> rfl) | (simp only [updH_apply, without_apply, cellsL_cons, cellsL_nil, mV_app, mV_app0, tyf, b24, e9, e10, e11, e12, (ix23 o26), d27, d34, nm, seval]; done)) d34 ?_
    try simp only [vz, fin_updS, tyf, b24, e9, e10, e11, e12, (ix23 o26), d27, d34, nm, seval]
    refine opd_ret (x := (.ref (nx7 + 18) 0 (List.length (c7_5 ++ [x1_n])) 1 (List.length (c7_5 ++ [x1_n])))) (by first | (simp only [Tryz.results46, resV, resL, resV1, tgt_ptr, tgt_tp, uw, cr, tyf, b24, (ix23 o26), d27, d34, nm, seval] <;> rfl) | rfl) ?_
    obtain rfl := kF _ h
    refine rr_tree ?_ ?_
    ·simp only [tre, tytre, Bool.and_self]
    ·first | (simp only [outV, uw, showV_ref, cr, tyf, nrm, tynrm, b24, e9, e10, e11, e12, (ix23 o26), d27, d34, nm, seval] <;> rfl) | rfl
   simp only [d34, hs] at h
   cases g35 : (roomOk 8 (List.length ((c7_5 ++ [x1_n]) ++ s32)))
   ·simp only [g35, hs] at h
    exact absurd h kN
   simp only [g35, hs] at h
   simp only [vz, fin_updS, tyf, b24, e9, e10, e11, e12, (ix23 o26), d27, d34, g35, nm, seval]
   refine k_appS (w := 1) (enc := eI) (xs := (c7_5 ++ [x1_n])) (ys := s32) (el := (sameEl el7_0 3)) (fun _ => rfl) lf23 ao23 Tryz.underlying23 (by first | rfl | assumption | (simp only [updH_apply, without_apply, et23, b24, nm, seval] <;> rfl) | (simp only [updH_apply, without_apply, cellsL_cons, cellsL_nil, mV_app, mV_app0, tyf, b24, e9, e10, e11, e12, (ix23 o26), d27, d34, g35, nm, seval]; done)) d34 g35 ?_
   try simp only [vz, fin_updS, tyf, b24, e9, e10, e11, e12, (ix23 o26), d27, d34, g35, nm, seval]
   refine opd_ret (x := (.ref (nx7 + 39) 0 (List.length ((c7_5 ++ [x1_n]) ++ s32)) 1 (List.length ((c7_5 ++ [x1_n]) ++ s32)))) (by first | (simp only [Tryz.results46, resV, resL, resV1, tgt_ptr, tgt_tp, uw, cr, tyf, b24, (ix23 o26), d27, d34, g35, nm, seval] <;> rfl) | rfl) ?_
   obtain rfl := kF _ h
   refine rr_tree ?_ ?_
   ·simp only [tre, tytre, Bool.and_self]
   ·first | (simp only [outV, uw, showV_ref, cr, tyf, nrm, tynrm, b24, e9, e10, e11, e12, (ix23 o26), d27, d34, g35, nm, seval] <;> rfl) | rfl
  | cons e7 p7 =>
   have d36 : (decide (c7_6 < (List.length x0_l : Int))) = true := lt_of_drop hi7 hp7
   have o38 := getI_of_drop hi7 hp7
   have w37 := wrap_next hi7 hp7 g8
   simp only [g_law03_with_l0, hs, reduceCtorEq] at h
   cases d39 : (decide (e7 < x1_n))
   ·simp only [d39, hs] at h
    have b40 := And.intro g8 (And.intro n13 (And.intro q15 (And.intro H14 (And.intro d36 (And.intro w37 d39)))))
    replace h := kG7 _ h
    try dsimp only at h
    try simp only [hs] at h
    cases g41 : (roomOk 8 (List.length (c7_5 ++ [x1_n])))
    ·simp only [g41, hs] at h
     exact absurd h kN
    simp only [g41, hs] at h
    simp only [vz, fin_updS, tyf, b40, e9, e10, e11, e12, (ix23 o38), g41, nm, seval]
    refine k_app (w := 1) (enc := eI) (xs := c7_5) (ys := ([x1_n])) (el := el7_0) (el2 := (some 3)) (fun _ => rfl) lf23 ao23 Tryz.underlying23 (by first | rfl | assumption | (simp only [updH_apply, without_apply, et23, b40, nm, seval] <;> rfl) | (simp only [updH_apply, without_apply, cellsL_cons, cellsL_nil, mV_app, mV_app0, tyf, b40, e9, e10, e11, e12, (ix23 o38), g41, nm, seval]; done)) (by first | rfl | assumption | (simp only [updH_apply, without_apply, et23, b40, nm, seval] <;> rfl) | (simp only [updH_apply, without_apply, cellsL_cons, cellsL_nil, mV_app, mV_app0, tyf, b40, e9, e10, e11, e12, (ix23 o38), g41, nm, seval]; done)) (Nat.zero_lt_succ _) g41 ?_
    cases d42 : (decide ((List.length c7_5 : Int) < (List.length x0_l : Int)))
    ·simp only [d42, hs] at h
     rcases o44 : (sliceO x0_l (List.length c7_5 : Int) (List.length x0_l : Int)) with _ | s43
     ·simp only [o44, hs] at h
      exact absurd h kN
     simp only [o44, hs] at h
     try simp only [vz, fin_updS, tyf, b40, e9, e10, e11, e12, (ix23 o38), g41, d42, nm, seval]
     refine k_slT (w := 1) (enc := eI) (xs := x0_l) Tryz.underlying23 (by kernel_rfl) (fun _ => rfl) (by first | (simp only [ev_tmp, ev_func, ev_int, upd_apply, b40, e9, e10, e11, e12, (ix23 o38), g41, d42, nm, seval] <;> rfl) | rfl) (.inr ⟨.i64, by simp only [Option.map_some]; exact congrArg some (by first | (simp only [ev_tmp, ev_func, ev_int, upd_apply, b40, e9, e10, e11, e12, (ix23 o38), g41, d42, nm, seval] <;> rfl) | rfl)⟩) (.inl ⟨rfl, rfl⟩) o44 ?_
     cases d45 : (neB s43)
     ·simp only [d45, hs] at h
      simp only [vz, fin_updS, tyf, b40, e9, e10, e11, e12, (ix23 o38), g41, d42, d45, nm, seval]
      refine k_appSE (w := 1) (enc := eI) (xs := (c7_5 ++ [x1_n])) (ys := s43) (el := (sameEl el7_0 3)) (fun _ => rfl) lf23 ao23 Tryz.underlying23 (by first | rfl | assumption | (simp only [updH_apply, without_apply, et23, b40, nm, seval] <;> rfl) | (simp only [updH_apply, without_apply, cellsL_cons, cellsL_nil, mV_app, mV_app0, tyf, b40, e9, e10, e11, e12, (ix23 o38), g41, d42, d45, nm, seval]; done)) d45 ?_
      try simp only [vz, fin_updS, tyf, b40, e9, e10, e11, e12, (ix23 o38), g41, d42, d45, nm, seval]
      refine opd_ret (x := (.ref (nx7 + 18) 0 (List.length (c7_5 ++ [x1_n])) 1 (List.length (c7_5 ++ [x1_n])))) (by first | (simp only [Tryz.results46, resV, resL, resV1, tgt_ptr, tgt_tp, uw, cr, tyf, b40, (ix23 o38), g41, d42, d45, nm, seval] <;> rfl) | rfl) ?_
      obtain rfl := kF _ h
      refine rr_tree ?_ ?_
      ·simp only [tre, tytre, Bool.and_self]
      ·first | (simp only [outV, uw, showV_ref, cr, tyf, nrm, tynrm, b40, e9, e10, e11, e12, (ix23 o38), g41, d42, d45, nm, seval] <;> rfl) | rfl
     simp only [d45, hs] at h
     cases g46 : (roomOk 8 (List.length ((c7_5 ++ [x1_n]) ++ s43)))
     ·simp only [g46, hs] at h
      exact absurd h kN
     simp only [g46, hs] at h
     simp only [vz, fin_updS, tyf, b40, e9, e10, e11, e12, (ix23 o38), g41, d42, d45, g46, nm, seval]
     refine k_appS (w := 1) (enc := eI) (xs := (c7_5 ++ [x1_n])) (ys := s43) (el := (sameEl el7_0 3)) (fun _ => rfl) lf23 ao23 Tryz.underlying23 (by first | rfl | assumption | (simp only [updH_apply, without_apply, et23, b40, nm, seval] <;> rfl) | (simp only [updH_apply, without_apply, cellsL_cons, cellsL_nil, mV_app, mV_app0, tyf, b40, e9, e10, e11, e12, (ix23 o38), g41, d42, d45, g46, nm, seval]; done)) d45 g46 ?_
     try simp only [vz, fin_updS, tyf, b40, e9, e10, e11, e12, (ix23 o38), g41, d42, d45, g46, nm, seval]
     refine opd_ret (x := (.ref (nx7 + 36) 0 (List.length ((c7_5 ++ [x1_n]) ++ s43)) 1 (List.length ((c7_5 ++ [x1_n]) ++ s43)))) (by first | (simp only [Tryz.results46, resV, resL, resV1, tgt_ptr, tgt_tp, uw, cr, tyf, b40, (ix23 o38), g41, d42, d45, g46, nm, seval] <;> rfl) | rfl) ?_
     obtain rfl := kF _ h
     refine rr_tree ?_ ?_
     ·simp only [tre, tytre, Bool.and_self]
     ·first | (simp only [outV, uw, showV_ref, cr, tyf, nrm, tynrm, b40, e9, e10, e11, e12, (ix23 o38), g41, d42, d45, g46, nm, seval] <;> rfl) | rfl
    simp only [d42, hs] at h
    rcases o48 : (getI x0_l (List.length c7_5 : Int)) with _ | x47
    ·simp only [o48, hs] at h
     exact absurd h kN
    simp only [o48, hs] at h
    cases d49 : (x47 == x1_n)
    ·simp only [d49, hs] at h
     rcases o51 : (sliceO x0_l (List.length c7_5 : Int) (List.length x0_l : Int)) with _ | s50
     ·simp only [o51, hs] at h
      exact absurd h kN
     simp only [o51, hs] at h
     try simp only [vz, fin_updS, tyf, b40, e9, e10, e11, e12, (ix23 o38), g41, d42, (ix23 o48), d49, nm, seval]
     refine k_slT (w := 1) (enc := eI) (xs := x0_l) Tryz.underlying23 (by kernel_rfl) (fun _ => rfl) (by first | (simp only [ev_tmp, ev_func, ev_int, upd_apply, b40, e9, e10, e11, e12, (ix23 o38), g41, d42, (ix23 o48), d49, nm, seval] <;> rfl) | rfl) (.inr ⟨.i64, by simp only [Option.map_some]; exact congrArg some (by first | (simp only [ev_tmp, ev_func, ev_int, upd_apply, b40, e9, e10, e11, e12, (ix23 o38), g41, d42, (ix23 o48), d49, nm, seval] <;> rfl) | rfl)⟩) (.inl ⟨rfl, rfl⟩) o51 ?_
     cases d52 : (neB s50)
     ·simp only [d52, hs] at h
      simp only [vz, fin_updS, tyf, b40, e9, e10, e11, e12, (ix23 o38), g41, d42, (ix23 o48), d49, d52, nm, seval]
      refine k_appSE (w := 1) (enc := eI) (xs := (c7_5 ++ [x1_n])) (ys := s50) (el := (sameEl el7_0 3)) (fun _ => rfl) lf23 ao23 Tryz.underlying23 (by first | rfl | assumption | (simp only [updH_apply, without_apply, et23, b40, nm, seval] <;> rfl) | (simp only [updH_apply, without_apply, cellsL_cons, cellsL_nil, mV_app, mV_app0, tyf, b40, e9, e10, e11, e12, (ix23 o38), g41, d42, (ix23 o48), d49, d52, nm, seval]; done)) d52 ?_
      try simp only [vz, fin_updS, tyf, b40, e9, e10, e11, e12, (ix23 o38), g41, d42, (ix23 o48), d49, d52, nm, seval]
      refine opd_ret (x := (.ref (nx7 + 18) 0 (List.length (c7_5 ++ [x1_n])) 1 (List.length (c7_5 ++ [x1_n])))) (by first | (simp only [Tryz.results46, resV, resL, resV1, tgt_ptr, tgt_tp, uw, cr, tyf, b40, (ix23 o38), g41, d42, (ix23 o48), d49, d52, nm, seval] <;> rfl) | rfl) ?_
      obtain rfl := kF _ h
      refine rr_tree ?_ ?_
      ·simp only [tre, tytre, Bool.and_self]
      ·first | (simp only [outV, uw, showV_ref, cr, tyf, nrm, tynrm, b40, e9, e10, e11, e12, (ix23 o38), g41, d42, (ix23 o48), d49, d52, nm, seval] <;> rfl) | rfl
     simp only [d52, hs] at h
     cases g53 : (roomOk 8 (List.length ((c7_5 ++ [x1_n]) ++ s50)))
     ·simp only [g53, hs] at h
      exact absurd h kN
     simp only [g53, hs] at h
     simp only [vz, fin_updS, tyf, b40, e9, e10, e11, e12, (ix23 o38), g41, d42, (ix23 o48), d49, d52, g53, nm, seval]
     refine k_appS (w := 1) (enc := eI) (xs := (c7_5 ++ [x1_n])) (ys := s50) (el := (sameEl el7_0 3)) (fun _ => rfl) lf23 ao23 Tryz.underlying23 (by first | rfl | assumption | (simp only [updH_apply, without_apply, et23, b40, nm, seval] <;> rfl) | (simp only [updH_apply, without_apply, cellsL_cons, cellsL_nil, mV_app, mV_app0, tyf, b40, e9, e10, e11, e12, (ix23 o38), g41, d42, (ix23 o48), d49, d52, g53, nm, seval]; done)) d52 g53 ?_
     try simp only [vz, fin_updS, tyf, b40, e9, e10, e11, e12, (ix23 o38), g41, d42, (ix23 o48), d49, d52, g53, nm, seval]
     refine opd_ret (x := (.ref (nx7 + 36) 0 (List.length ((c7_5 ++ [x1_n]) ++ s50)) 1 (List.length ((c7_5 ++ [x1_n]) ++ s50)))) (by first | (simp only [Tryz.results46, resV, resL, resV1, tgt_ptr, tgt_tp, uw, cr, tyf, b40, (ix23 o38), g41, d42, (ix23 o48), d49, d52, g53, nm, seval] <;> rfl) | rfl) ?_
     obtain rfl := kF _ h
     refine rr_tree ?_ ?_
     ·simp only [tre, tytre, Bool.and_self]
     ·first | (simp only [outV, uw, showV_ref, cr, tyf, nrm, tynrm, b40, e9, e10, e11, e12, (ix23 o38), g41, d42, (ix23 o48), d49, d52, g53, nm, seval] <;> rfl) | rfl
    simp only [d49, hs] at h
    rcases o55 : (sliceO x0_l (IntKind.i64.wrap ((List.length c7_5 : Int) + 1)) (List.length x0_l : Int)) with _ | s54
    ·simp only [o55, hs] at h
     exact absurd h kN
    simp only [o55, hs] at h
    try simp only [vz, fin_updS, tyf, b40, e9, e10, e11, e12, (ix23 o38), g41, d42, (ix23 o48), d49, nm, seval]
    refine k_slT (w := 1) (enc := eI) (xs := x0_l) Tryz.underlying23 (by kernel_rfl) (fun _ => rfl) (by first | (simp only [ev_tmp, ev_func, ev_int, upd_apply, b40, e9, e10, e11, e12, (ix23 o38), g41, d42, (ix23 o48), d49, nm, seval] <;> rfl) | rfl) (.inr ⟨.i64, by simp only [Option.map_some]; exact congrArg some (by first | (simp only [ev_tmp, ev_func, ev_int, upd_apply, b40, e9, e10, e11, e12, (ix23 o38), g41, d42, (ix23 o48), d49, nm, seval] <;> rfl) | rfl)⟩) (.inl ⟨rfl, rfl⟩) o55 ?_
    cases d56 : (neB s54)
    ·simp only [d56, hs] at h
     simp only [vz, fin_updS, tyf, b40, e9, e10, e11, e12, (ix23 o38), g41, d42, (ix23 o48), d49, d56, nm, seval]
     refine k_appSE (w := 1) (enc := eI) (xs := (c7_5 ++ [x1_n])) (ys := s54) (el := (sameEl el7_0 3)) (fun _ => rfl) lf23 ao23 Tryz.underlying23 (by first | rfl | assumption | (simp only [updH_apply, without_apply, et23, b40, nm, seval] <;> rfl) | (simp only [updH_apply, without_apply, cellsL_cons, cellsL_nil, mV_app, mV_app0, tyf, b40, e9, e10, e11, e12, (ix23 o38), g41, d42, (ix23 o48), d49, d56, nm, seval]; done)) d56 ?_
     try simp only [vz, fin_updS, tyf, b40, e9, e10, e11, e12, (ix23 o38), g41, d42, (ix23 o48), d49, d56, nm, seval]
     refine opd_ret (x := (.ref (nx7 + 18) 0 (List.length (c7_5 ++ [x1_n])) 1 (List.length (c7_5 ++ [x1_n])))) (by first | (simp only [Tryz.results46, resV, resL, resV1, tgt_ptr, tgt_tp, uw, cr, tyf, b40, (ix23 o38), g41, d42, (ix23 o48), d49, d56, nm, seval] <;> rfl) | rfl) ?_
     obtain rfl := kF _ h
     refine rr_tree ?_ ?_
     ·simp only [tre, tytre, Bool.and_self]
     ·first | (simp only [outV, uw, showV_ref, cr, tyf, nrm, tynrm, b40, e9, e10, e11, e12, (ix23 o38), g41, d42, (ix23 o48), d49, d56, nm, seval] <;> rfl) | rfl
    simp only [d56, hs] at h
    cases g57 : (roomOk 8 (List.length ((c7_5 ++ [x1_n]) ++ s54)))
    ·simp only [g57, hs] at h
     exact absurd h kN
    simp only [g57, hs] at h
    simp only [vz, fin_updS, tyf, b40, e9, e10, e11, e12, (ix23 o38), g41, d42, (ix23 o48), d49, d56, g57, nm, seval]
    refine k_appS (w := 1) (enc := eI) (xs := (c7_5 ++ [x1_n])) (ys := s54) (el := (sameEl el7_0 3)) (fun _ => rfl) lf23 ao23 Tryz.underlying23 (by first | rfl | assumption | (simp only [updH_apply, without_apply, et23, b40, nm, seval] <;> rfl) | (simp only [updH_apply, without_apply, cellsL_cons, cellsL_nil, mV_app, mV_app0, tyf, b40, e9, e10, e11, e12, (ix23 o38), g41, d42, (ix23 o48), d49, d56, g57, nm, seval]; done)) d56 g57 ?_
    try simp only [vz, fin_updS, tyf, b40, e9, e10, e11, e12, (ix23 o38), g41, d42, (ix23 o48), d49, d56, g57, nm, seval]
    refine opd_ret (x := (.ref (nx7 + 39) 0 (List.length ((c7_5 ++ [x1_n]) ++ s54)) 1 (List.length ((c7_5 ++ [x1_n]) ++ s54)))) (by first | (simp only [Tryz.results46, resV, resL, resV1, tgt_ptr, tgt_tp, uw, cr, tyf, b40, (ix23 o38), g41, d42, (ix23 o48), d49, d56, g57, nm, seval] <;> rfl) | rfl) ?_
    obtain rfl := kF _ h
    refine rr_tree ?_ ?_
    ·simp only [tre, tytre, Bool.and_self]
    ·first | (simp only [outV, uw, showV_ref, cr, tyf, nrm, tynrm, b40, e9, e10, e11, e12, (ix23 o38), g41, d42, (ix23 o48), d49, d56, g57, nm, seval] <;> rfl) | rfl
   simp only [d39, hs] at h
   have b58 := And.intro g8 (And.intro n13 (And.intro q15 (And.intro H14 (And.intro d36 (And.intro w37 d39)))))
   cases g59 : (roomOk 8 (List.length (c7_5 ++ [e7])))
   ·simp only [g59, hs] at h
    exact absurd h kN7
   simp only [g59, hs] at h
   simp only [vz, fin_updS, tyf, b58, e9, e10, e11, e12, (ix23 o38), g59, nm, seval]
   refine k_app (w := 1) (enc := eI) (xs := c7_5) (ys := ([e7])) (el := el7_0) (el2 := (some 3)) (fun _ => rfl) lf23 ao23 Tryz.underlying23 (by first | rfl | assumption | (simp only [updH_apply, without_apply, et23, b58, nm, seval] <;> rfl) | (simp only [updH_apply, without_apply, cellsL_cons, cellsL_nil, mV_app, mV_app0, tyf, b58, e9, e10, e11, e12, (ix23 o38), g59, nm, seval]; done)) (by first | rfl | assumption | (simp only [updH_apply, without_apply, et23, b58, nm, seval] <;> rfl) | (simp only [updH_apply, without_apply, cellsL_cons, cellsL_nil, mV_app, mV_app0, tyf, b58, e9, e10, e11, e12, (ix23 o38), g59, nm, seval]; done)) (Nat.zero_lt_succ _) g59 ?_
   simp only [vz, fin_updS, tyf, b58, e9, e10, e11, e12, (ix23 o38), g59, nm, seval]
   exact ⟨List.length p7, Nat.lt_succ_self _, by rw [hI7]; refine ⟨p7, c7_6 + 1, (c7_5 ++ [e7]), .ref (nx7 + 18) 0 (List.length (c7_5 ++ [e7])) 1 (List.length (c7_5 ++ [e7])), rfl, Int.le_trans hi7 (Int.le_add_one (Int.le_refl _)), drop_next hi7 hp7, rfl, (show 3 ≤ nx7 + 23 by omega), e9, e10, ?_, ?_, Or.inl ⟨nx7 + 18, (sameEl el7_0 3), rfl, (by first | omega | (simp only [nm, seval]; omega)), ?_⟩, h⟩ <;> first | (simp only [ua, b58, e9, e10, e11, e12, nm, seval] <;> rfl) | rfl⟩
 ·have w60 := vap_y hy_q15
  have w61 := outV_y hy_q15
  have w62 := vlen_y hy_q15
  cases p7 with
  | nil =>
   have d63 : (decide (c7_6 < (List.length x0_l : Int))) = false := not_lt_of_drop hi7 hp7
   simp only [g_law03_with_l0, hs, reduceCtorEq] at h
   replace h := kG7 _ h
   try dsimp only at h
   try simp only [hs] at h
   cases g64 : (roomOk 8 (List.length (([] : List Int) ++ [x1_n])))
   ·simp only [g64, hs] at h
    exact absurd h kN
   simp only [g64, hs] at h
   simp only [vz, fin_updS, tyf, g8, n13, e9, e10, e11, e12, w60, w61, w62, d63, g64, nm, seval]
   refine k_appN (w := 1) (enc := eI) (ys := ([x1_n])) (el2 := (some 3)) (fun _ => rfl) lf23 ao23 Tryz.underlying23 (by first | rfl | assumption | (simp only [updH_apply, without_apply, et23, n13, nm, seval] <;> rfl) | (simp only [updH_apply, without_apply, cellsL_cons, cellsL_nil, mV_app, mV_app0, tyf, g8, n13, e9, e10, e11, e12, w60, w61, w62, d63, g64, nm, seval]; done)) (Nat.zero_lt_succ _) g64 ?_
   try simp only [len0] at h
   cases d65 : (decide (0 < (List.length x0_l : Int)))
   ·simp only [d65, hs] at h
    have b66 := And.intro g8 (And.intro n13 (And.intro w60 (And.intro w61 (And.intro w62 (And.intro d63 (And.intro g64 d65))))))
    rcases o68 : (sliceO x0_l 0 (List.length x0_l : Int)) with _ | s67
    ·simp only [o68, hs] at h
     exact absurd h kN
    simp only [o68, hs] at h
    try simp only [vz, fin_updS, tyf, b66, e9, e10, e11, e12, nm, seval]
    refine k_slT (w := 1) (enc := eI) (xs := x0_l) Tryz.underlying23 (by kernel_rfl) (fun _ => rfl) (by first | (simp only [ev_tmp, ev_func, ev_int, upd_apply, b66, e9, e10, e11, e12, nm, seval] <;> rfl) | rfl) (.inr ⟨.i64, by simp only [Option.map_some]; exact congrArg some (by first | (simp only [ev_tmp, ev_func, ev_int, upd_apply, b66, e9, e10, e11, e12, nm, seval] <;> rfl) | rfl)⟩) (.inl ⟨rfl, rfl⟩) o68 ?_
    cases d69 : (neB s67)
    ·simp only [d69, hs] at h
     simp only [vz, fin_updS, tyf, b66, e9, e10, e11, e12, d69, nm, seval]
     refine k_appSE (w := 1) (enc := eI) (xs := (([] : List Int) ++ [x1_n])) (ys := s67) (el := (some 3)) (fun _ => rfl) lf23 ao23 Tryz.underlying23 (by first | rfl | assumption | (simp only [updH_apply, without_apply, et23, b66, nm, seval] <;> rfl) | (simp only [updH_apply, without_apply, cellsL_cons, cellsL_nil, mV_app, mV_app0, tyf, b66, e9, e10, e11, e12, d69, nm, seval]; done)) d69 ?_
     try simp only [vz, fin_updS, tyf, b66, e9, e10, e11, e12, d69, nm, seval]
     refine opd_ret (x := (.ref (nx7 + 18) 0 (List.length (([] : List Int) ++ [x1_n])) 1 (List.length (([] : List Int) ++ [x1_n])))) (by first | (simp only [Tryz.results46, resV, resL, resV1, tgt_ptr, tgt_tp, uw, cr, tyf, b66, d69, nm, seval] <;> rfl) | rfl) ?_
     obtain rfl := kF _ h
     refine rr_tree ?_ ?_
     ·simp only [tre, tytre, Bool.and_self]
     ·first | (simp only [outV, uw, showV_ref, cr, tyf, nrm, tynrm, b66, e9, e10, e11, e12, d69, nm, seval] <;> rfl) | rfl
    simp only [d69, hs] at h
    cases g70 : (roomOk 8 (List.length ((([] : List Int) ++ [x1_n]) ++ s67)))
    ·simp only [g70, hs] at h
     exact absurd h kN
    simp only [g70, hs] at h
    simp only [vz, fin_updS, tyf, b66, e9, e10, e11, e12, d69, g70, nm, seval]
    refine k_appS (w := 1) (enc := eI) (xs := (([] : List Int) ++ [x1_n])) (ys := s67) (el := (some 3)) (fun _ => rfl) lf23 ao23 Tryz.underlying23 (by first | rfl | assumption | (simp only [updH_apply, without_apply, et23, b66, nm, seval] <;> rfl) | (simp only [updH_apply, without_apply, cellsL_cons, cellsL_nil, mV_app, mV_app0, tyf, b66, e9, e10, e11, e12, d69, g70, nm, seval]; done)) d69 g70 ?_
    try simp only [vz, fin_updS, tyf, b66, e9, e10, e11, e12, d69, g70, nm, seval]
    refine opd_ret (x := (.ref (nx7 + 36) 0 (List.length ((([] : List Int) ++ [x1_n]) ++ s67)) 1 (List.length ((([] : List Int) ++ [x1_n]) ++ s67)))) (by first | (simp only [Tryz.results46, resV, resL, resV1, tgt_ptr, tgt_tp, uw, cr, tyf, b66, d69, g70, nm, seval] <;> rfl) | rfl) ?_
    obtain rfl := kF _ h
    refine rr_tree ?_ ?_
    ·simp only [tre, tytre, Bool.and_self]
    ·first | (simp only [outV, uw, showV_ref, cr, tyf, nrm, tynrm, b66, e9, e10, e11, e12, d69, g70, nm, seval] <;> rfl) | rfl
   simp only [d65, hs] at h
   have b71 := And.intro g8 (And.intro n13 (And.intro w60 (And.intro w61 (And.intro w62 (And.intro d63 (And.intro g64 d65))))))
   rcases o73 : (getI x0_l 0) with _ | x72
   ·simp only [o73, hs] at h
    exact absurd h kN
   simp only [o73, hs] at h
   cases d74 : (x72 == x1_n)
   ·simp only [d74, hs] at h
    rcases o76 : (sliceO x0_l 0 (List.length x0_l : Int)) with _ | s75
    ·simp only [o76, hs] at h
     exact absurd h kN
    simp only [o76, hs] at h
    try simp only [vz, fin_updS, tyf, b71, e9, e10, e11, e12, (ix23 o73), d74, nm, seval]
    refine k_slT (w := 1) (enc := eI) (xs := x0_l) Tryz.underlying23 (by kernel_rfl) (fun _ => rfl) (by first | (simp only [ev_tmp, ev_func, ev_int, upd_apply, b71, e9, e10, e11, e12, (ix23 o73), d74, nm, seval] <;> rfl) | rfl) (.inr ⟨.i64, by simp only [Option.map_some]; exact congrArg some (by first | (simp only [ev_tmp, ev_func, ev_int, upd_apply, b71, e9, e10, e11, e12, (ix23 o73), d74, nm, seval] <;> rfl) | rfl)⟩) (.inl ⟨rfl, rfl⟩) o76 ?_
    cases d77 : (neB s75)
    ·simp only [d77, hs] at h
     simp only [vz, fin_updS, tyf, b71, e9, e10, e11, e12, (ix23 o73), d74, d77, nm, seval]
     refine k_appSE (w := 1) (enc := eI) (xs := (([] : List Int) ++ [x1_n])) (ys := s75) (el := (some 3)) (fun _ => rfl) lf23 ao23 Tryz.underlying23 (by first | rfl | assumption | (simp only [updH_apply, without_apply, et23, b71, nm, seval] <;> rfl) | (simp only [updH_apply, without_apply, cellsL_cons, cellsL_nil, mV_app, mV_app0, tyf, b71, e9, e10, e11, e12, (ix23 o73), d74, d77, nm, seval]; done)) d77 ?_
     try simp only [vz, fin_updS, tyf, b71, e9, e10, e11, e12, (ix23 o73), d74, d77, nm, seval]
     refine opd_ret (x := (.ref (nx7 + 18) 0 (List.length (([] : List Int) ++ [x1_n])) 1 (List.length (([] : List Int) ++ [x1_n])))) (by first | (simp only [Tryz.results46, resV, resL, resV1, tgt_ptr, tgt_tp, uw, cr, tyf, b71, (ix23 o73), d74, d77, nm, seval] <;> rfl) | rfl) ?_
     obtain rfl := kF _ h
     refine rr_tree ?_ ?_
     ·simp only [tre, tytre, Bool.and_self]
     ·first | (simp only [outV, uw, showV_ref, cr, tyf, nrm, tynrm, b71, e9, e10, e11, e12, (ix23 o73), d74, d77, nm, seval] <;> rfl) | rfl
    simp only [d77, hs] at h
    cases g78 : (roomOk 8 (List.length ((([] : List Int) ++ [x1_n]) ++ s75)))
    ·simp only [g78, hs] at h
     exact absurd h kN
    simp only [g78, hs] at h
    simp only [vz, fin_updS, tyf, b71, e9, e10, e11, e12, (ix23 o73), d74, d77, g78, nm, seval]
    refine k_appS (w := 1) (enc := eI) (xs := (([] : List Int) ++ [x1_n])) (ys := s75) (el := (some 3)) (fun _ => rfl) lf23 ao23 Tryz.underlying23 (by first | rfl | assumption | (simp only [updH_apply, without_apply, et23, b71, nm, seval] <;> rfl) | (simp only [updH_apply, without_apply, cellsL_cons, cellsL_nil, mV_app, mV_app0, tyf, b71, e9, e10, e11, e12, (ix23 o73), d74, d77, g78, nm, seval]; done)) d77 g78 ?_
    try simp only [vz, fin_updS, tyf, b71, e9, e10, e11, e12, (ix23 o73), d74, d77, g78, nm, seval]
    refine opd_ret (x := (.ref (nx7 + 36) 0 (List.length ((([] : List Int) ++ [x1_n]) ++ s75)) 1 (List.length ((([] : List Int) ++ [x1_n]) ++ s75)))) (by first | (simp only [Tryz.results46, resV, resL, resV1, tgt_ptr, tgt_tp, uw, cr, tyf, b71, (ix23 o73), d74, d77, g78, nm, seval] <;> rfl) | rfl) ?_
    obtain rfl := kF _ h
    refine rr_tree ?_ ?_
    ·simp only [tre, tytre, Bool.and_self]
    ·first | (simp only [outV, uw, showV_ref, cr, tyf, nrm, tynrm, b71, e9, e10, e11, e12, (ix23 o73), d74, d77, g78, nm, seval] <;> rfl) | rfl
   simp only [d74, hs] at h
   try simp only [len0, wr01] at h
   rcases o80 : (sliceO x0_l 1 (List.length x0_l : Int)) with _ | s79
   ·simp only [o80, hs] at h
    exact absurd h kN
   simp only [o80, hs] at h
   try simp only [vz, fin_updS, tyf, b71, e9, e10, e11, e12, (ix23 o73), d74, nm, seval]
   refine k_slT (w := 1) (enc := eI) (xs := x0_l) Tryz.underlying23 (by kernel_rfl) (fun _ => rfl) (by first | (simp only [ev_tmp, ev_func, ev_int, upd_apply, b71, e9, e10, e11, e12, (ix23 o73), d74, nm, seval] <;> rfl) | rfl) (.inr ⟨.i64, by simp only [Option.map_some]; exact congrArg some (by first | (simp only [ev_tmp, ev_func, ev_int, upd_apply, b71, e9, e10, e11, e12, (ix23 o73), d74, nm, seval] <;> rfl) | rfl)⟩) (.inl ⟨rfl, rfl⟩) o80 ?_
   cases d81 : (neB s79)
   ·simp only [d81, hs] at h
    simp only [vz, fin_updS, tyf, b71, e9, e10, e11, e12, (ix23 o73), d74, d81, nm, seval]
    refine k_appSE (w := 1) (enc := eI) (xs := (([] : List Int) ++ [x1_n])) (ys := s79) (el := (some 3)) (fun _ => rfl) lf23 ao23 Tryz.underlying23 (by first | rfl | assumption | (simp only [updH_apply, without_apply, et23, b71, nm, seval] <;> rfl) | (simp only [updH_apply, without_apply, cellsL_cons, cellsL_nil, mV_app, mV_app0, tyf, b71, e9, e10, e11, e12, (ix23 o73), d74, d81, nm, seval]; done)) d81 ?_
    try simp only [vz, fin_updS, tyf, b71, e9, e10, e11, e12, (ix23 o73), d74, d81, nm, seval]
    refine opd_ret (x := (.ref (nx7 + 18) 0 (List.length (([] : List Int) ++ [x1_n])) 1 (List.length (([] : List Int) ++ [x1_n])))) (by first | (simp only [Tryz.results46, resV, resL, resV1, tgt_ptr, tgt_tp, uw, cr, tyf, b71, (ix23 o73), d74, d81, nm, seval] <;> rfl) | rfl) ?_
    obtain rfl := kF _ h
    refine rr_tree ?_ ?_
    ·simp only [tre, tytre, Bool.and_self]
    ·first | (simp only [outV, uw, showV_ref, cr, tyf, nrm, tynrm, b71, e9, e10, e11, e12, (ix23 o73), d74, d81, nm, seval] <;> rfl) | rfl
   simp only [d81, hs] at h
   cases g82 : (roomOk 8 (List.length ((([] : List Int) ++ [x1_n]) ++ s79)))
   ·simp only [g82, hs] at h
    exact absurd h kN
   simp only [g82, hs] at h
   simp only [vz, fin_updS, tyf, b71, e9, e10, e11, e12, (ix23 o73), d74, d81, g82, nm, seval]
   refine k_appS (w := 1) (enc := eI) (xs := (([] : List Int) ++ [x1_n])) (ys := s79) (el := (some 3)) (fun _ => rfl) lf23 ao23 Tryz.underlying23 (by first | rfl | assumption | (simp only [updH_apply, without_apply, et23, b71, nm, seval] <;> rfl) | (simp only [updH_apply, without_apply, cellsL_cons, cellsL_nil, mV_app, mV_app0, tyf, b71, e9, e10, e11, e12, (ix23 o73), d74, d81, g82, nm, seval]; done)) d81 g82 ?_
   try simp only [vz, fin_updS, tyf, b71, e9, e10, e11, e12, (ix23 o73), d74, d81, g82, nm, seval]
   refine opd_ret (x := (.ref (nx7 + 39) 0 (List.length ((([] : List Int) ++ [x1_n]) ++ s79)) 1 (List.length ((([] : List Int) ++ [x1_n]) ++ s79)))) (by first | (simp only [Tryz.results46, resV, resL, resV1, tgt_ptr, tgt_tp, uw, cr, tyf, b71, (ix23 o73), d74, d81, g82, nm, seval] <;> rfl) | rfl) ?_
   obtain rfl := kF _ h
   refine rr_tree ?_ ?_
   ·simp only [tre, tytre, Bool.and_self]
   ·first | (simp only [outV, uw, showV_ref, cr, tyf, nrm, tynrm, b71, e9, e10, e11, e12, (ix23 o73), d74, d81, g82, nm, seval] <;> rfl) | rfl
  | cons e7 p7 =>
   have d83 : (decide (c7_6 < (List.length x0_l : Int))) = true := lt_of_drop hi7 hp7
   have o85 := getI_of_drop hi7 hp7
   have w84 := wrap_next hi7 hp7 g8
   simp only [g_law03_with_l0, hs, reduceCtorEq] at h
   cases d86 : (decide (e7 < x1_n))
   ·simp only [d86, hs] at h
    have b87 := And.intro g8 (And.intro n13 (And.intro w60 (And.intro w61 (And.intro w62 (And.intro d83 (And.intro w84 d86))))))
    replace h := kG7 _ h
    try dsimp only at h
    try simp only [hs] at h
    cases g88 : (roomOk 8 (List.length (([] : List Int) ++ [x1_n])))
    ·simp only [g88, hs] at h
     exact absurd h kN
    simp only [g88, hs] at h
    simp only [vz, fin_updS, tyf, b87, e9, e10, e11, e12, (ix23 o85), g88, nm, seval]
    refine k_appN (w := 1) (enc := eI) (ys := ([x1_n])) (el2 := (some 3)) (fun _ => rfl) lf23 ao23 Tryz.underlying23 (by first | rfl | assumption | (simp only [updH_apply, without_apply, et23, b87, nm, seval] <;> rfl) | (simp only [updH_apply, without_apply, cellsL_cons, cellsL_nil, mV_app, mV_app0, tyf, b87, e9, e10, e11, e12, (ix23 o85), g88, nm, seval]; done)) (Nat.zero_lt_succ _) g88 ?_
    try simp only [len0] at h
    cases d89 : (decide (0 < (List.length x0_l : Int)))
    ·simp only [d89, hs] at h
     rcases o91 : (sliceO x0_l 0 (List.length x0_l : Int)) with _ | s90
     ·simp only [o91, hs] at h
      exact absurd h kN
     simp only [o91, hs] at h
     try simp only [vz, fin_updS, tyf, b87, e9, e10, e11, e12, (ix23 o85), g88, d89, nm, seval]
     refine k_slT (w := 1) (enc := eI) (xs := x0_l) Tryz.underlying23 (by kernel_rfl) (fun _ => rfl) (by first | (simp only [ev_tmp, ev_func, ev_int, upd_apply, b87, e9, e10, e11, e12, (ix23 o85), g88, d89, nm, seval] <;> rfl) | rfl) (.inr ⟨.i64, by simp only [Option.map_some]; exact congrArg some (by first | (simp only [ev_tmp, ev_func, ev_int, upd_apply, b87, e9, e10, e11, e12, (ix23 o85), g88, d89, nm, seval] <;> rfl) | rfl)⟩) (.inl ⟨rfl, rfl⟩) o91 ?_
     cases d92 : (neB s90)
     ·simp only [d92, hs] at h
      simp only [vz, fin_updS, tyf, b87, e9, e10, e11, e12, (ix23 o85), g88, d89, d92, nm, seval]
      refine k_appSE (w := 1) (enc := eI) (xs := (([] : List Int) ++ [x1_n])) (ys := s90) (el := (some 3)) (fun _ => rfl) lf23 ao23 Tryz.underlying23 (by first | rfl | assumption | (simp only [updH_apply, without_apply, et23, b87, nm, seval] <;> rfl) | (simp only [updH_apply, without_apply, cellsL_cons, cellsL_nil, mV_app, mV_app0, tyf, b87, e9, e10, e11, e12, (ix23 o85), g88, d89, d92, nm, seval]; done)) d92 ?_
      try simp only [vz, fin_updS, tyf, b87, e9, e10, e11, e12, (ix23 o85), g88, d89, d92, nm, seval]
      refine opd_ret (x := (.ref (nx7 + 18) 0 (List.length (([] : List Int) ++ [x1_n])) 1 (List.length (([] : List Int) ++ [x1_n])))) (by first | (simp only [Tryz.results46, resV, resL, resV1, tgt_ptr, tgt_tp, uw, cr, tyf, b87, (ix23 o85), g88, d89, d92, nm, seval] <;> rfl) | rfl) ?_
      obtain rfl := kF _ h
      refine rr_tree ?_ ?_
      ·simp only [tre, tytre, Bool.and_self]
      ·first | (simp only [outV, uw, showV_ref, cr, tyf, nrm, tynrm, b87, e9, e10, e11, e12, (ix23 o85), g88, d89, d92, nm, seval] <;> rfl) | rfl
     simp only [d92, hs] at h
     cases g93 : (roomOk 8 (List.length ((([] : List Int) ++ [x1_n]) ++ s90)))
     ·simp only [g93, hs] at h
      exact absurd h kN
     simp only [g93, hs] at h
     simp only [vz, fin_updS, tyf, b87, e9, e10, e11, e12, (ix23 o85), g88, d89, d92, g93, nm, seval]
     refine k_appS (w := 1) (enc := eI) (xs := (([] : List Int) ++ [x1_n])) (ys := s90) (el := (some 3)) (fun _ => rfl) lf23 ao23 Tryz.underlying23 (by first | rfl | assumption | (simp only [updH_apply, without_apply, et23, b87, nm, seval] <;> rfl) | (simp only [updH_apply, without_apply, cellsL_cons, cellsL_nil, mV_app, mV_app0, tyf, b87, e9, e10, e11, e12, (ix23 o85), g88, d89, d92, g93, nm, seval]; done)) d92 g93 ?_
     try simp only [vz, fin_updS, tyf, b87, e9, e10, e11, e12, (ix23 o85), g88, d89, d92, g93, nm, seval]
     refine opd_ret (x := (.ref (nx7 + 36) 0 (List.length ((([] : List Int) ++ [x1_n]) ++ s90)) 1 (List.length ((([] : List Int) ++ [x1_n]) ++ s90)))) (by first | (simp only [Tryz.results46, resV, resL, resV1, tgt_ptr, tgt_tp, uw, cr, tyf, b87, (ix23 o85), g88, d89, d92, g93, nm, seval] <;> rfl) | rfl) ?_
     obtain rfl := kF _ h
     refine rr_tree ?_ ?_
     ·simp only [tre, tytre, Bool.and_self]
     ·first | (simp only [outV, uw, showV_ref, cr, tyf, nrm, tynrm, b87, e9, e10, e11, e12, (ix23 o85), g88, d89, d92, g93, nm, seval] <;> rfl) | rfl
    simp only [d89, hs] at h
    rcases o95 : (getI x0_l 0) with _ | x94
    ·simp only [o95, hs] at h
     exact absurd h kN
    simp only [o95, hs] at h
    cases d96 : (x94 == x1_n)
    ·simp only [d96, hs] at h
     rcases o98 : (sliceO x0_l 0 (List.length x0_l : Int)) with _ | s97
     ·simp only [o98, hs] at h
      exact absurd h kN
     simp only [o98, hs] at h
     try simp only [vz, fin_updS, tyf, b87, e9, e10, e11, e12, (ix23 o85), g88, d89, (ix23 o95), d96, nm, seval]
     refine k_slT (w := 1) (enc := eI) (xs := x0_l) Tryz.underlying23 (by kernel_rfl) (fun _ => rfl) (by first | (simp only [ev_tmp, ev_func, ev_int, upd_apply, b87, e9, e10, e11, e12, (ix23 o85), g88, d89, (ix23 o95), d96, nm, seval] <;> rfl) | rfl) (.inr ⟨.i64, by simp only [Option.map_some]; exact congrArg some (by first | (simp only [ev_tmp, ev_func, ev_int, upd_apply, b87, e9, e10, e11, e12, (ix23 o85), g88, d89, (ix23 o95), d96, nm, seval] <;> rfl) | rfl)⟩) (.inl ⟨rfl, rfl⟩) o98 ?_
     cases d99 : (neB s97)
     ·simp only [d99, hs] at h
      simp only [vz, fin_updS, tyf, b87, e9, e10, e11, e12, (ix23 o85), g88, d89, (ix23 o95), d96, d99, nm, seval]
      refine k_appSE (w := 1) (enc := eI) (xs := (([] : List Int) ++ [x1_n])) (ys := s97) (el := (some 3)) (fun _ => rfl) lf23 ao23 Tryz.underlying23 (by first | rfl | assumption | (simp only [updH_apply, without_apply, et23, b87, nm, seval] <;> rfl) | (simp only [updH_apply, without_apply, cellsL_cons, cellsL_nil, mV_app, mV_app0, tyf, b87, e9, e10, e11, e12, (ix23 o85), g88, d89, (ix23 o95), d96, d99, nm, seval]; done)) d99 ?_
      try simp only [vz, fin_updS, tyf, b87, e9, e10, e11, e12, (ix23 o85), g88, d89, (ix23 o95), d96, d99, nm, seval]
      refine opd_ret (x := (.ref (nx7 + 18) 0 (List.length (([] : List Int) ++ [x1_n])) 1 (List.length (([] : List Int) ++ [x1_n])))) (by first | (simp only [Tryz.results46, resV, resL, resV1, tgt_ptr, tgt_tp, uw, cr, tyf, b87, (ix23 o85), g88, d89, (ix23 o95), d96, d99, nm, seval] <;> rfl) | rfl) ?_
      obtain rfl := kF _ h
      refine rr_tree ?_ ?_
      ·simp only [tre, tytre, Bool.and_self]
      ·first | (simp only [outV, uw, showV_ref, cr, tyf, nrm, tynrm, b87, e9, e10, e11, e12, (ix23 o85), g88, d89, (ix23 o95), d96, d99, nm, seval] <;> rfl) | rfl
     simp only [d99, hs] at h
     cases g100 : (roomOk 8 (List.length ((([] : List Int) ++ [x1_n]) ++ s97)))
     ·simp only [g100, hs] at h
      exact absurd h kN
     simp only [g100, hs] at h
     simp only [vz, fin_updS, tyf, b87, e9, e10, e11, e12, (ix23 o85), g88, d89, (ix23 o95), d96, d99, g100, nm, seval]
     refine k_appS (w := 1) (enc := eI) (xs := (([] : List Int) ++ [x1_n])) (ys := s97) (el := (some 3)) (fun _ => rfl) lf23 ao23 Tryz.underlying23 (by first | rfl | assumption | (simp only [updH_apply, without_apply, et23, b87, nm, seval] <;> rfl) | (simp only [updH_apply, without_apply, cellsL_cons, cellsL_nil, mV_app, mV_app0, tyf, b87, e9, e10, e11, e12, (ix23 o85), g88, d89, (ix23 o95), d96, d99, g100, nm, seval]; done)) d99 g100 ?_
     try simp only [vz, fin_updS, tyf, b87, e9, e10, e11, e12, (ix23 o85), g88, d89, (ix23 o95), d96, d99, g100, nm, seval]
     refine opd_ret (x := (.ref (nx7 + 36) 0 (List.length ((([] : List Int) ++ [x1_n]) ++ s97)) 1 (List.length ((([] : List Int) ++ [x1_n]) ++ s97)))) (by first | (simp only [Tryz.results46, resV, resL, resV1, tgt_ptr, tgt_tp, uw, cr, tyf, b87, (ix23 o85), g88, d89, (ix23 o95), d96, d99, g100, nm, seval] <;> rfl) | rfl) ?_
     obtain rfl := kF _ h
     refine rr_tree ?_ ?_
     ·simp only [tre, tytre, Bool.and_self]
     ·first | (simp only [outV, uw, showV_ref, cr, tyf, nrm, tynrm, b87, e9, e10, e11, e12, (ix23 o85), g88, d89, (ix23 o95), d96, d99, g100, nm, seval] <;> rfl) | rfl
    simp only [d96, hs] at h
    try simp only [len0, wr01] at h
    rcases o102 : (sliceO x0_l 1 (List.length x0_l : Int)) with _ | s101
    ·simp only [o102, hs] at h
     exact absurd h kN
    simp only [o102, hs] at h
    try simp only [vz, fin_updS, tyf, b87, e9, e10, e11, e12, (ix23 o85), g88, d89, (ix23 o95), d96, nm, seval]
    refine k_slT (w := 1) (enc := eI) (xs := x0_l) Tryz.underlying23 (by kernel_rfl) (fun _ => rfl) (by first | (simp only [ev_tmp, ev_func, ev_int, upd_apply, b87, e9, e10, e11, e12, (ix23 o85), g88, d89, (ix23 o95), d96, nm, seval] <;> rfl) | rfl) (.inr ⟨.i64, by simp only [Option.map_some]; exact congrArg some (by first | (simp only [ev_tmp, ev_func, ev_int, upd_apply, b87, e9, e10, e11, e12, (ix23 o85), g88, d89, (ix23 o95), d96, nm, seval] <;> rfl) | rfl)⟩) (.inl ⟨rfl, rfl⟩) o102 ?_
    cases d103 : (neB s101)
    ·simp only [d103, hs] at h
     simp only [vz, fin_updS, tyf, b87, e9, e10, e11, e12, (ix23 o85), g88, d89, (ix23 o95), d96, d103, nm, seval]
     refine k_appSE (w := 1) (enc := eI) (xs := (([] : List Int) ++ [x1_n])) (ys := s101) (el := (some 3)) (fun _ => rfl) lf23 ao23 Tryz.underlying23 (by first | rfl | assumption | (simp only [updH_apply, without_apply, et23, b87, nm, seval] <;> rfl) | (simp only [updH_apply, without_apply, cellsL_cons, cellsL_nil, mV_app, mV_app0, tyf, b87, e9, e10, e11, e12, (ix23 o85), g88, d89, (ix23 o95), d96, d103, nm, seval]; done)) d103 ?_
     try simp only [vz, fin_updS, tyf, b87, e9, e10, e11, e12, (ix23 o85), g88, d89, (ix23 o95), d96, d103, nm, seval]
     refine opd_ret (x := (.ref (nx7 + 18) 0 (List.length (([] : List Int) ++ [x1_n])) 1 (List.length (([] : List Int) ++ [x1_n])))) (by first | (simp only [Tryz.results46, resV, resL, resV1, tgt_ptr, tgt_tp, uw, cr, tyf, b87, (ix23 o85), g88, d89, (ix23 o95), d96, d103, nm, seval] <;> rfl) | rfl) ?_
     obtain rfl := kF _ h
     refine rr_tree ?_ ?_
     ·simp only [tre, tytre, Bool.and_self]
     ·first | (simp only [outV, uw, showV_ref, cr, tyf, nrm, tynrm, b87, e9, e10, e11, e12, (ix23 o85), g88, d89, (ix23 o95), d96, d103, nm, seval] <;> rfl) | rfl
    simp only [d103, hs] at h
    cases g104 : (roomOk 8 (List.length ((([] : List Int) ++ [x1_n]) ++ s101)))
    ·simp only [g104, hs] at h
     exact absurd h kN
    simp only [g104, hs] at h
    simp only [vz, fin_updS, tyf, b87, e9, e10, e11, e12, (ix23 o85), g88, d89, (ix23 o95), d96, d103, g104, nm, seval]
    refine k_appS (w := 1) (enc := eI) (xs := (([] : List Int) ++ [x1_n])) (ys := s101) (el := (some 3)) (fun _ => rfl) lf23 ao23 Tryz.underlying23 (by first | rfl | assumption | (simp only [updH_apply, without_apply, et23, b87, nm, seval] <;> rfl) | (simp only [updH_apply, without_apply, cellsL_cons, cellsL_nil, mV_app, mV_app0, tyf, b87, e9, e10, e11, e12, (ix23 o85), g88, d89, (ix23 o95), d96, d103, g104, nm, seval]; done)) d103 g104 ?_
    try simp only [vz, fin_updS, tyf, b87, e9, e10, e11, e12, (ix23 o85), g88, d89, (ix23 o95), d96, d103, g104, nm, seval]
    refine opd_ret (x := (.ref (nx7 + 39) 0 (List.length ((([] : List Int) ++ [x1_n]) ++ s101)) 1 (List.length ((([] : List Int) ++ [x1_n]) ++ s101)))) (by first | (simp only [Tryz.results46, resV, resL, resV1, tgt_ptr, tgt_tp, uw, cr, tyf, b87, (ix23 o85), g88, d89, (ix23 o95), d96, d103, g104, nm, seval] <;> rfl) | rfl) ?_
    obtain rfl := kF _ h
    refine rr_tree ?_ ?_
    ·simp only [tre, tytre, Bool.and_self]
    ·first | (simp only [outV, uw, showV_ref, cr, tyf, nrm, tynrm, b87, e9, e10, e11, e12, (ix23 o85), g88, d89, (ix23 o95), d96, d103, g104, nm, seval] <;> rfl) | rfl
   simp only [d86, hs] at h
   have b105 := And.intro g8 (And.intro n13 (And.intro w60 (And.intro w61 (And.intro w62 (And.intro d83 (And.intro w84 d86))))))
   cases g106 : (roomOk 8 (List.length (([] : List Int) ++ [e7])))
   ·simp only [g106, hs] at h
    exact absurd h kN7
   simp only [g106, hs] at h
   simp only [vz, fin_updS, tyf, b105, e9, e10, e11, e12, (ix23 o85), g106, nm, seval]
   refine k_appN (w := 1) (enc := eI) (ys := ([e7])) (el2 := (some 3)) (fun _ => rfl) lf23 ao23 Tryz.underlying23 (by first | rfl | assumption | (simp only [updH_apply, without_apply, et23, b105, nm, seval] <;> rfl) | (simp only [updH_apply, without_apply, cellsL_cons, cellsL_nil, mV_app, mV_app0, tyf, b105, e9, e10, e11, e12, (ix23 o85), g106, nm, seval]; done)) (Nat.zero_lt_succ _) g106 ?_
   simp only [vz, fin_updS, tyf, b105, e9, e10, e11, e12, (ix23 o85), g106, nm, seval]
   exact ⟨List.length p7, Nat.lt_succ_self _, by rw [hI7]; refine ⟨p7, c7_6 + 1, (([] : List Int) ++ [e7]), .ref (nx7 + 18) 0 (List.length (([] : List Int) ++ [e7])) 1 (List.length (([] : List Int) ++ [e7])), rfl, Int.le_trans hi7 (Int.le_add_one (Int.le_refl _)), drop_next hi7 hp7, rfl, (show 3 ≤ nx7 + 23 by omega), e9, e10, ?_, ?_, Or.inl ⟨nx7 + 18, (some 3), rfl, (by first | omega | (simp only [nm, seval]; omega)), ?_⟩, h⟩ <;> first | (simp only [ua, b105, e9, e10, e11, e12, nm, seval] <;> rfl) | rfl⟩
end Go.V
end
