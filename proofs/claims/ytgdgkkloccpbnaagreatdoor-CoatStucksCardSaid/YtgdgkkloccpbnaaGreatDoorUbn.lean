/- Part of a proof: a logic of values by content, lifted functions, what follows. -/
import Derived.Test.YtgdgkkloccpbnaaGreatDoorUbm
import Derived.Test.YtgdgkkloccpbnaaGreatDoorUbc
import Derived.Test.YtgdgkkloccpbnaaGreatDoorUbe
import Derived.Test.YtgdgkkloccpbnaaGreatDoorUbh
import Derived.Test.YtgdgkkloccpbnaaGreatDoorUbl
import Derived.Test.YtgdgkkloccpbnaaGreatDoorUay
import Derived.Test.YtgdgkkloccpbnaaGreatDoorProg
set_option linter.all false
set_option maxRecDepth 4000
set_option maxHeartbeats 40000000
section
namespace Go.V
open Go Go.Proofs
set_option linter.unusedVariables false
def g_ref03_plansR (s : GCoatSheet) (now : List Int) : Option (List (List Int)) := g_ref03_plans 16 s now
theorem g_ref03_plansR_ok (s : GCoatSheet) (now : List Int) (R : List (List Int)) (h : g_ref03_plansR s now = some R) : VPure Tryz.prog G0 63 [.agg (cGCoatSheet s), .sl (cellsL eI now) (List.length now) false] (.tree (.sl (cellsL (eSl eI) R) (List.length R) false)) := g_ref03_plans_ok 16 s now R h
end Go.V
end
section
namespace Go.V
open Go Go.Proofs
def g_ref03_All_l0 (x0_s : GCoatSheet) : List (List Int) → Int → (List (List Int)) → Option (LOut (List (List Int)) ((List (List Int))))
 | [], c0_5, c0_4 => some (.go c0_4)
 | e0 :: p0, c0_5, c0_4 => Option.bind (g_ref03_Surely x0_s e0) (fun r2 => cond (r2) (cond (roomOk 24 (List.length (c0_4 ++ [e0]))) (g_ref03_All_l0 x0_s p0 (c0_5 + 1) (c0_4 ++ [e0])) none) (g_ref03_All_l0 x0_s p0 (c0_5 + 1) c0_4))
def g_ref03_All (x0_s : GCoatSheet) : Option (List (List Int)) := Option.bind (g_ref03_plansR x0_s ([] : List Int)) (fun r1 => cond (lenOk r1) (lbind (g_ref03_All_l0 x0_s r1 0 ([] : List (List Int))) (fun r4 => some r4) (fun c3 => some c3) (fun _ _ => none)) none)
theorem g_ref03_All_ok (x0_s : GCoatSheet) (R : List (List Int)) (h : g_ref03_All x0_s = some R) : VPure Tryz.prog G0 20 [.agg (cGCoatSheet x0_s)] (.tree (.sl (cellsL (eSl eI) R) (List.length R) false)) := by
 refine VPure.runR mixed Tryz.call20 Tryz.func20 rfl (by simp [Tryz.ntmps20]; kernel_rfl) ?_
 obtain ⟨KF, h, kF, kN⟩ := fun_intro h
 simp only [g_ref03_All] at h
 rcases o6 : (g_ref03_plansR x0_s ([] : List Int)) with _ | r5
 ·simp only [o6, hs] at h
  exact absurd h kN
 simp only [o6, hs] at h
 simp only [vz, tyf, nm, seval]
 refine ktree (args0 := [.agg (cGCoatSheet x0_s), .sl (cellsL eI ([] : List Int)) (List.length ([] : List Int)) false]) (by first | (simp only [nrm, tynrm] <;> rfl) | rfl) (by simp only [tre, tytre, Bool.and_self]) (g_ref03_plansR_ok _ _ _ o6) ?_
 refine fin_cut (fun tm => tm 1 = .ptr 0 0 ∧ tm 7 = .sl (cellsL (eSl eI) r5) (List.length r5) false ∧ True) (by refine ⟨?_, ?_, trivial⟩ <;> first | (simp only [ua, nm, seval] <;> rfl) | rfl) ?_
 rintro tm ⟨e7, e8, _⟩
 cases g10 : (lenOk r5)
 ·simp only [g10, hs] at h
  exact absurd h kN
 simp only [g10, hs] at h
 simp only [vz, tyf, e7, e8, g10, nm, seval]
 obtain ⟨K9, h, kR9, kG9, kB9, kN9⟩ := lbind_intro h kN
 obtain ⟨f9, hf9, h⟩ := call3 h
 obtain ⟨I9, hI9⟩ : ∃ I : Nat → St → Prop, I = (fun m st => ∃ (p9 : List (List Int)) (c9_5 : Int) (c9_4 : List (List Int)) (y9_0 : VV), m = List.length p9 ∧ 0 ≤ c9_5 ∧ List.drop (Int.toNat c9_5) r5 = p9 ∧ st.df = [] ∧ 7 ≤ st.nx ∧ st.H 0 = some (.cells (some 26) (cGCoatSheet x0_s)) ∧ st.tm 1 = .ptr 0 0 ∧ st.tm 3 = .sl (cellsL (eSl eI) r5) (List.length r5) false ∧ st.tm 4 = y9_0 ∧ st.tm 5 = .lit (.int .i64 c9_5) ∧ ((∃ (β : Nat) (el : Option TypeId), y9_0 = .ref β 0 (List.length c9_4) 1 (List.length c9_4) ∧ β < st.nx ∧ β ≠ 0 ∧ st.H β = some (.cells el (cellsL (eSl eI) c9_4))) ∨ (y9_0 = .lit (.slice none 0 0) ∧ c9_4 = [])) ∧ K9 (f9 p9 c9_5 c9_4)) := ⟨_, rfl⟩
 refine loopK mixed (by kernel_rfl) I9 (List.length r5) (by rw [hI9]; refine ⟨r5, 0, ([] : List (List Int)), .lit (.slice none 0 0), rfl, Int.le_refl _, rfl, rfl, (show 7 ≤ 7 by omega), ?_, e7, ?_, ?_, ?_, Or.inr ⟨rfl, rfl⟩, h⟩ <;> first | (simp only [ua, e7, e8, nm, seval] <;> rfl) | rfl) ?_
 rintro m ⟨tm, H, nx9, df⟩ hinv
 rw [hI9] at hinv
 obtain ⟨p9, c9_5, c9_4, y9_0, rfl, hi9, hp9, hdf, hn9, H11, e12, e13, e14, e15, ow9_0, h⟩ := hinv
 simp only at hdf hn9 H11 e12 e13 e14 e15 ow9_0
 have n16 := base_ne0 (m := 7) (b := nx9) (by omega)
 subst hdf hf9
 rcases ow9_0 with ⟨b9_0, el9_0, rfl, lq18, lq19, H17⟩ | ⟨rfl, rfl⟩
 ·have q18 := own_lt lq18
  have q19 := ne_f lq19
  cases p9 with
  | nil =>
   have d20 : (decide (c9_5 < (List.length r5 : Int))) = false := not_lt_of_drop hi9 hp9
   simp only [g_ref03_All_l0, hs, reduceCtorEq] at h
   replace h := kG9 _ h
   try dsimp only at h
   try simp only [hs] at h
   try simp only [vz, tyf, g10, n16, e12, e13, e14, e15, H11, q18, H17, q19, d20, nm, seval]
   refine opd_ret (x := (.ref b9_0 0 (List.length c9_4) 1 (List.length c9_4))) (by first | (simp only [Tryz.results20, resV, resL, resV1, tgt_ptr, tgt_tp, uw, cr, tyf, g10, n16, H11, q18, H17, q19, d20, nm, seval] <;> rfl) | rfl) ?_
   obtain rfl := kF _ h
   refine rr_tree ?_ ?_
   ·simp only [tre, tytre, Bool.and_self]
   ·first | (simp only [outV, uw, showV_ref, cr, tyf, nrm, tynrm, g10, n16, e12, e13, e14, e15, H11, q18, H17, q19, d20, nm, seval] <;> rfl) | rfl
  | cons e9 p9 =>
   have d21 : (decide (c9_5 < (List.length r5 : Int))) = true := lt_of_drop hi9 hp9
   have o23 := getI_of_drop hi9 hp9
   have w22 := wrap_next hi9 hp9 g10
   simp only [g_ref03_All_l0, hs, reduceCtorEq] at h
   simp only [vz, tyf, g10, n16, e12, e13, e14, e15, H11, q18, H17, q19, d21, (ix34 o23), w22, nm, seval]
   refine cwp_drwQF (fun tm => tm 1 = .ptr 0 0 ∧ tm 3 = .sl (cellsL (eSl eI) r5) (List.length r5) false ∧ tm 4 = .ref b9_0 0 (List.length c9_4) 1 (List.length c9_4) ∧ tm 5 = .lit (.int .i64 c9_5) ∧ True) (by refine ⟨e12, e13, e14, e15, trivial⟩ <;> first | (simp only [ua, n16, e12, e13, e14, e15, H11, q18, H17, q19, d21, w22, nm, seval] <;> rfl) | rfl) ?_
   rintro tm ⟨e24, e25, e26, e27, _⟩
   have b28 := And.intro g10 (And.intro n16 (And.intro H11 (And.intro q18 (And.intro H17 (And.intro q19 (And.intro d21 w22))))))
   rcases o30 : (g_ref03_Surely x0_s e9) with _ | r29
   ·simp only [o30, hs] at h
    exact absurd h kN9
   simp only [o30, hs] at h
   simp only [vz, tyf, b28, (ix34 o23), e24, e25, e26, e27, nm, seval]
   refine dktree (args0 := [.agg (cGCoatSheet x0_s), .sl (cellsL eI e9) (List.length e9) false]) (by first | (simp only [nrm, tynrm] <;> rfl) | rfl) (by simp only [tre, tytre, Bool.and_self]) (g_ref03_Surely_ok _ _ _ o30) ?_
   refine fin_cut (fun tm => tm 1 = .ptr 0 0 ∧ tm 3 = .sl (cellsL (eSl eI) r5) (List.length r5) false ∧ tm 4 = .ref b9_0 0 (List.length c9_4) 1 (List.length c9_4) ∧ tm 5 = .lit (.int .i64 c9_5) ∧ tm 19 = .lit (.bool r29) ∧ True) (by refine ⟨e24, e25, e26, e27, ?_, trivial⟩ <;> first | (simp only [ua, b28, e24, e25, e26, e27, nm, seval] <;> rfl) | rfl) ?_
   rintro tm ⟨e31, e32, e33, e34, e35, _⟩
   cases d36 : (r29)
   ·simp only [d36, hs] at h
    simp only [vz, tyf, b28, (ix34 o23), e31, e32, e33, e34, e35, d36, nm, seval]
    exact ⟨List.length p9, Nat.lt_succ_self _, by rw [hI9]; refine ⟨p9, c9_5 + 1, c9_4, .ref b9_0 0 (List.length c9_4) 1 (List.length c9_4), rfl, Int.le_trans hi9 (Int.le_add_one (Int.le_refl _)), drop_next hi9 hp9, rfl, (show 7 ≤ nx9 + 13 by omega), ?_, e31, e32, ?_, ?_, Or.inl ⟨b9_0, el9_0, rfl, (by first | omega | (simp only [nm, seval]; omega)), (by first | omega | (intro hh; simp only [b28, reduceCtorEq] at hh)), ?_⟩, h⟩ <;> first | (simp only [ua, b28, e31, e32, e33, e34, e35, d36, nm, seval] <;> rfl) | rfl⟩
   simp only [d36, hs] at h
   cases g37 : (roomOk 24 (List.length (c9_4 ++ [e9])))
   ·simp only [g37, hs] at h
    exact absurd h kN9
   simp only [g37, hs] at h
   simp only [vz, tyf, b28, (ix34 o23), e31, e32, e33, e34, e35, d36, g37, nm, seval]
   refine k_app (w := 1) (enc := (eSl eI)) (xs := c9_4) (ys := ([e9])) (el := el9_0) (el2 := (some 23)) (fun _ => rfl) lf34 ao34 Tryz.underlying34 (by first | rfl | assumption | (simp only [updH_apply, without_apply, et34, b28, nm, seval] <;> rfl) | (simp only [updH_apply, without_apply, cellsL_cons, cellsL_nil, mV_app, mV_app0, tyf, b28, (ix34 o23), e31, e32, e33, e34, e35, d36, g37, nm, seval]; done)) (by first | rfl | assumption | (simp only [updH_apply, without_apply, et34, b28, nm, seval] <;> rfl) | (simp only [updH_apply, without_apply, cellsL_cons, cellsL_nil, mV_app, mV_app0, tyf, b28, (ix34 o23), e31, e32, e33, e34, e35, d36, g37, nm, seval]; done)) (Nat.zero_lt_succ _) g37 ?_
   simp only [vz, tyf, b28, (ix34 o23), e31, e32, e33, e34, e35, d36, g37, nm, seval]
   exact ⟨List.length p9, Nat.lt_succ_self _, by rw [hI9]; refine ⟨p9, c9_5 + 1, (c9_4 ++ [e9]), .ref (nx9 + 16) 0 (List.length (c9_4 ++ [e9])) 1 (List.length (c9_4 ++ [e9])), rfl, Int.le_trans hi9 (Int.le_add_one (Int.le_refl _)), drop_next hi9 hp9, rfl, (show 7 ≤ nx9 + 21 by omega), ?_, e31, e32, ?_, ?_, Or.inl ⟨nx9 + 16, (sameEl el9_0 23), rfl, (by first | omega | (simp only [nm, seval]; omega)), (by first | omega | (intro hh; simp only [b28, reduceCtorEq] at hh)), ?_⟩, h⟩ <;> first | (simp only [ua, b28, e31, e32, e33, e34, e35, d36, nm, seval] <;> rfl) | rfl⟩
 ·cases p9 with
  | nil =>
   have d38 : (decide (c9_5 < (List.length r5 : Int))) = false := not_lt_of_drop hi9 hp9
   simp only [g_ref03_All_l0, hs, reduceCtorEq] at h
   replace h := kG9 _ h
   try dsimp only at h
   try simp only [hs] at h
   try simp only [vz, tyf, g10, n16, e12, e13, e14, e15, H11, d38, nm, seval]
   refine opd_ret (x := (.lit (.slice none 0 0))) (by first | (simp only [Tryz.results20, resV, resL, resV1, tgt_ptr, tgt_tp, uw, cr, tyf, g10, n16, H11, d38, nm, seval] <;> rfl) | rfl) ?_
   obtain rfl := kF _ h
   refine rr_tree ?_ ?_
   ·simp only [tre, tytre, Bool.and_self]
   ·first | (simp only [outV, uw, showV_ref, cr, tyf, nrm, tynrm, g10, n16, e12, e13, e14, e15, H11, d38, nm, seval] <;> rfl) | rfl
  | cons e9 p9 =>
   have d39 : (decide (c9_5 < (List.length r5 : Int))) = true := lt_of_drop hi9 hp9
   have o41 := getI_of_drop hi9 hp9
   have w40 := wrap_next hi9 hp9 g10
   simp only [g_ref03_All_l0, hs, reduceCtorEq] at h
   simp only [vz, tyf, g10, n16, e12, e13, e14, e15, H11, d39, (ix34 o41), w40, nm, seval]
   refine cwp_drwQF (fun tm => tm 1 = .ptr 0 0 ∧ tm 3 = .sl (cellsL (eSl eI) r5) (List.length r5) false ∧ tm 4 = .lit (.slice none 0 0) ∧ tm 5 = .lit (.int .i64 c9_5) ∧ True) (by refine ⟨e12, e13, e14, e15, trivial⟩ <;> first | (simp only [ua, n16, e12, e13, e14, e15, H11, d39, w40, nm, seval] <;> rfl) | rfl) ?_
   rintro tm ⟨e42, e43, e44, e45, _⟩
   rcases o47 : (g_ref03_Surely x0_s e9) with _ | r46
   ·simp only [o47, hs] at h
    exact absurd h kN9
   simp only [o47, hs] at h
   simp only [vz, tyf, g10, n16, H11, d39, (ix34 o41), w40, e42, e43, e44, e45, nm, seval]
   refine dktree (args0 := [.agg (cGCoatSheet x0_s), .sl (cellsL eI e9) (List.length e9) false]) (by first | (simp only [nrm, tynrm] <;> rfl) | rfl) (by simp only [tre, tytre, Bool.and_self]) (g_ref03_Surely_ok _ _ _ o47) ?_
   refine fin_cut (fun tm => tm 1 = .ptr 0 0 ∧ tm 3 = .sl (cellsL (eSl eI) r5) (List.length r5) false ∧ tm 4 = .lit (.slice none 0 0) ∧ tm 5 = .lit (.int .i64 c9_5) ∧ tm 19 = .lit (.bool r46) ∧ True) (by refine ⟨e42, e43, e44, e45, ?_, trivial⟩ <;> first | (simp only [ua, n16, H11, d39, w40, e42, e43, e44, e45, nm, seval] <;> rfl) | rfl) ?_
   rintro tm ⟨e48, e49, e50, e51, e52, _⟩
   cases d53 : (r46)
   ·simp only [d53, hs] at h
    simp only [vz, tyf, g10, n16, H11, d39, (ix34 o41), w40, e48, e49, e50, e51, e52, d53, nm, seval]
    exact ⟨List.length p9, Nat.lt_succ_self _, by rw [hI9]; refine ⟨p9, c9_5 + 1, ([] : List (List Int)), .lit (.slice none 0 0), rfl, Int.le_trans hi9 (Int.le_add_one (Int.le_refl _)), drop_next hi9 hp9, rfl, (show 7 ≤ nx9 + 13 by omega), ?_, e48, e49, ?_, ?_, Or.inr ⟨rfl, rfl⟩, h⟩ <;> first | (simp only [ua, n16, H11, d39, w40, e48, e49, e50, e51, e52, d53, nm, seval] <;> rfl) | rfl⟩
   simp only [d53, hs] at h
   cases g54 : (roomOk 24 (List.length (([] : List (List Int)) ++ [e9])))
   ·simp only [g54, hs] at h
    exact absurd h kN9
   simp only [g54, hs] at h
   simp only [vz, tyf, g10, n16, H11, d39, (ix34 o41), w40, e48, e49, e50, e51, e52, d53, g54, nm, seval]
   refine k_appN (w := 1) (enc := (eSl eI)) (ys := ([e9])) (el2 := (some 23)) (fun _ => rfl) lf34 ao34 Tryz.underlying34 (by first | rfl | assumption | (simp only [updH_apply, without_apply, et34, n16, H11, nm, seval] <;> rfl) | (simp only [updH_apply, without_apply, cellsL_cons, cellsL_nil, mV_app, mV_app0, tyf, g10, n16, H11, d39, (ix34 o41), w40, e48, e49, e50, e51, e52, d53, g54, nm, seval]; done)) (Nat.zero_lt_succ _) g54 ?_
   simp only [vz, tyf, g10, n16, H11, d39, (ix34 o41), w40, e48, e49, e50, e51, e52, d53, g54, nm, seval]
   exact ⟨List.length p9, Nat.lt_succ_self _, by rw [hI9]; refine ⟨p9, c9_5 + 1, (([] : List (List Int)) ++ [e9]), .ref (nx9 + 16) 0 (List.length (([] : List (List Int)) ++ [e9])) 1 (List.length (([] : List (List Int)) ++ [e9])), rfl, Int.le_trans hi9 (Int.le_add_one (Int.le_refl _)), drop_next hi9 hp9, rfl, (show 7 ≤ nx9 + 21 by omega), ?_, e48, e49, ?_, ?_, Or.inl ⟨nx9 + 16, (some 23), rfl, (by first | omega | (simp only [nm, seval]; omega)), (by first | omega | (intro hh; simp only [n16, reduceCtorEq] at hh)), ?_⟩, h⟩ <;> first | (simp only [ua, n16, H11, d39, w40, e48, e49, e50, e51, e52, d53, nm, seval] <;> rfl) | rfl⟩
end Go.V
end
section
namespace Go.V
open Go
set_option linter.unusedVariables false
set_option linter.unusedSimpArgs false
theorem eq_of_sorted {α : Type} {r : α → α → Prop} (irr : ∀ x, ¬ r x x) (tr : ∀ x y z, r x y → r y z → r x z) : ∀ (a b : List α), a.Pairwise r → b.Pairwise r → (∀ x, x ∈ a ↔ x ∈ b) → a = b
 | [], [], _, _, _ => rfl
 | [], y :: b, _, _, h => absurd ((h y).2 (by simp)) (by simp)
 | x :: a, [], _, _, h => absurd ((h x).1 (by simp)) (by simp)
 | x :: a, y :: b, ha, hb, h => by
  obtain ⟨ha1, ha2⟩ := List.pairwise_cons.1 ha
  obtain ⟨hb1, hb2⟩ := List.pairwise_cons.1 hb
  have hxy : x = y := by
   rcases List.mem_cons.1 ((h x).1 (by simp)) with e | hx
   ·exact e
   rcases List.mem_cons.1 ((h y).2 (by simp)) with e | hy
   ·exact e.symm
   exact absurd (tr _ _ _ (hb1 x hx) (ha1 y hy)) (irr _)
  subst hxy
  refine congrArg (x :: ·) (eq_of_sorted irr tr a b ha2 hb2 fun z => ⟨fun hz => ?_, fun hz => ?_⟩)
  ·rcases List.mem_cons.1 ((h z).1 (List.mem_cons_of_mem _ hz)) with e | hz2
   ·rw [e] at hz; exact absurd (ha1 _ hz) (irr _)
   ·exact hz2
  ·rcases List.mem_cons.1 ((h z).2 (List.mem_cons_of_mem _ hz)) with e | hz2
   ·rw [e] at hz; exact absurd (hb1 _ hz) (irr _)
   ·exact hz2
def okP (p : List Int) (w : Int) : Bool := match p.getLast? with
 | some a => decide (w > a)
 | none => true
def plansP (W : List Int) : Nat → List Int → List (List Int)
 | 0, p => [p]
 | d + 1, p => W.flatMap fun w => if okP p w then plansP W d (p ++ [w]) else []
theorem flatMap_len {α β : Type} {f : α → List β} {m : Nat} (h : ∀ x, (f x).length ≤ m) : ∀ l : List α, (l.flatMap f).length ≤ l.length * m
 | [] => by simp
 | a :: l => by
  rw [List.flatMap_cons, List.length_append, List.length_cons, Nat.add_mul, Nat.one_mul]
  have := flatMap_len h l
  have := h a
  omega
theorem plansP_len {W : List Int} (hW : W.length ≤ 12) : ∀ (d : Nat) (p : List Int), (plansP W d p).length ≤ 12 ^ d
 | 0, p => by simp [plansP]
 | d + 1, p => by
  rw [plansP, Nat.pow_succ, Nat.mul_comm]
  refine Nat.le_trans (flatMap_len (m := 12 ^ d) (fun w => ?_) W) (Nat.mul_le_mul_right _ hW)
  split
  ·exact plansP_len hW d _
  ·simp
theorem plans_l0 {rc : GCoatSheet → List Int → Option (List (List Int))} {s : GCoatSheet} {now : List Int} {d : Nat} (hW : s.Work.length ≤ 12) (hn : now.length ≤ 1000) (hrc : ∀ w, rc s (now ++ [w]) = some (plansP s.Work d (now ++ [w]))) :
  ∀ (p : List Int) (c : Int) (out : List (List Int)), out.length + p.length * 12 ^ d ≤ 1000000000 → g_ref03_plans_b_l0 rc s now p c out = some (.go (out ++ p.flatMap fun w => if okP now w then plansP s.Work d (now ++ [w]) else []))
 | [], c, out, _ => by simp [g_ref03_plans_b_l0]
 | e :: p, c, out, hl => by
  rw [List.length_cons, Nat.add_mul, Nat.one_mul] at hl
  have hR := plansP_len hW d (now ++ [e])
  have tail : Option.bind (rc s (now ++ [e])) (fun r => cond (neB r) (cond (roomOk 24 (out ++ r).length) (g_ref03_plans_b_l0 rc s now p (c + 1) (out ++ r)) none) (g_ref03_plans_b_l0 rc s now p (c + 1) out)) = some (.go ((out ++ plansP s.Work d (now ++ [e])) ++ p.flatMap fun w => if okP now w then plansP s.Work d (now ++ [w]) else [])) := by
   rw [hrc e, Option.bind_some, show roomOk 24 (out ++ plansP s.Work d (now ++ [e])).length = true by simp [roomOk]; omega, cond_true]
   have i1 := plans_l0 hW hn hrc p (c + 1) (out ++ plansP s.Work d (now ++ [e])) (by rw [List.length_append]; omega)
   cases hne : neB (plansP s.Work d (now ++ [e])) with
   | true => rw [cond_true, i1]
   | false =>
    have hnil := neB_false hne
    rw [hnil, List.append_nil] at i1 ⊢
    rw [cond_false, i1]
  rw [List.flatMap_cons]
  cases hnow : now with
  | nil =>
   subst hnow
   rw [g_ref03_plans_b_l0]
   rw [show ((List.length ([] : List Int) : Int) == 0) = true from rfl, cond_true, show neB ([] : List Int) = false from rfl, cond_false, show roomOk 8 (List.length (([] : List Int) ++ [e])) = true from rfl, cond_true, tail]
   simp [okP]
  | cons a l =>
   have hlen : 1 ≤ now.length := by rw [hnow]; simp
   obtain ⟨x, hx⟩ : ∃ x, now.getLast? = some x := by rw [hnow]; exact ⟨_, List.getLast?_cons⟩
   rw [← hnow]
   rw [g_ref03_plans_b_l0, getI_last hlen (by omega), hx, show ((List.length now : Int) == 0) = false by rw [beq_eq_false_iff_ne]; omega, cond_false, Option.bind_some,
    show neB now = true by rw [hnow]; rfl, cond_true, List.nil_append, show roomOk 8 now.length = true by simp [roomOk]; omega, cond_true, show roomOk 8 (now ++ [e]).length = true by simp [roomOk]; omega, cond_true, tail]
   have hok : okP now e = decide (e > x) := by unfold okP; rw [hx]
   rw [hok]
   by_cases hd : e > x
   ·simp [hd]
   ·have i2 := plans_l0 hW hn hrc p (c + 1) out (by omega)
    simp [hd, i2]
theorem rplans_eq {s : GCoatSheet} (hW : s.Work.length ≤ 12) (hc : s.Coats.length ≤ 5) : ∀ (d n : Nat) (now : List Int), now.length + d = s.Coats.length → d < n → g_ref03_plans n s now = some (plansP s.Work d now)
 | _, 0, _, _, h => absurd h (Nat.not_lt_zero _)
 | 0, n + 1, now, hl, _ => by
  show g_ref03_plans_b (g_ref03_plans n) s now = _
  unfold g_ref03_plans_b
  rw [show ((List.length now : Int) == (List.length s.Coats : Int)) = true by simp; omega]
  rfl
 | d + 1, n + 1, now, hl, hn => by
  show g_ref03_plans_b (g_ref03_plans n) s now = _
  unfold g_ref03_plans_b
  have hp : 12 ^ d ≤ 12 ^ 5 := Nat.pow_le_pow_right (by omega) (by omega)
  have hm : s.Work.length * 12 ^ d ≤ 12 * 12 ^ 5 := Nat.mul_le_mul hW hp
  rw [show ((List.length now : Int) == (List.length s.Coats : Int)) = false by simp; omega, cond_false, lenOk_of (by omega), cond_true,
   plans_l0 hW (by omega) (fun w => rplans_eq hW hc d n (now ++ [w]) (by simp; omega) (by omega)) s.Work 0 [] (by simp; omega)]
  rfl
def stepsP (W : List Int) : List Int → List Int → Bool
 | _, [] => true
 | p, w :: t => W.contains w && (okP p w && stepsP W (p ++ [w]) t)
theorem mem_plansP {W : List Int} : ∀ (d : Nat) (p q : List Int), q ∈ plansP W d p ↔ ∃ t, q = p ++ t ∧ t.length = d ∧ stepsP W p t = true
 | 0, p, q => by
  rw [plansP, List.mem_singleton]
  constructor
  ·rintro rfl; exact ⟨[], by simp, rfl, rfl⟩
  ·rintro ⟨t, rfl, ht, _⟩
   rw [List.length_eq_zero_iff.1 ht, List.append_nil]
 | d + 1, p, q => by
  rw [plansP, List.mem_flatMap]
  constructor
  ·rintro ⟨w, hw, h⟩
   split at h
   ·rename_i hm
    obtain ⟨t, rfl, ht, hs⟩ := (mem_plansP d _ q).1 h
    exact ⟨w :: t, by simp, by simp [ht], by simp only [stepsP, hm, hs, Bool.and_true, List.contains_iff_mem]; exact hw⟩
   ·cases h
  ·rintro ⟨t, rfl, ht, hs⟩
   cases t with
   | nil => simp at ht
   | cons w t =>
    simp only [stepsP, Bool.and_eq_true, List.contains_iff_mem] at hs
    refine ⟨w, hs.1, ?_⟩
    rw [if_pos hs.2.1]
    exact (mem_plansP d _ _).2 ⟨t, by simp, by simpa using ht, hs.2.2⟩
theorem stepsP_up {W : List Int} : ∀ (t p : List Int) (a : Int), stepsP W (p ++ [a]) t = true ↔ (∀ x ∈ t, x ∈ W) ∧ upB (a :: t) = true
 | [], p, a => by simp [stepsP, upB]
 | w :: t, p, a => by
  rw [stepsP, upB_cons, show okP (p ++ [a]) w = decide (w > a) by simp [okP]]
  simp only [Bool.and_eq_true, List.contains_iff_mem, stepsP_up t (p ++ [a]) w, decide_eq_true_eq, List.mem_cons, forall_eq_or_imp]
  constructor
  ·rintro ⟨h1, h2, h3, h4⟩; exact ⟨⟨h1, h3⟩, h2, h4⟩
  ·rintro ⟨⟨h1, h3⟩, h2, h4⟩; exact ⟨h1, h2, h3, h4⟩
theorem stepsP_nil {W : List Int} (t : List Int) : stepsP W [] t = true ↔ (∀ x ∈ t, x ∈ W) ∧ upB t = true := by
 cases t with
 | nil => simp [stepsP, upB]
 | cons w t =>
  rw [stepsP]
  simp only [Bool.and_eq_true, List.contains_iff_mem, stepsP_up t [] w, List.mem_cons, forall_eq_or_imp]
  exact ⟨fun h => ⟨⟨h.1, h.2.2.1⟩, h.2.2.2⟩, fun h => ⟨h.1.1, rfl, h.1.2, h.2⟩⟩
theorem up_pw : ∀ {l : List Int}, upB l = true → l.Pairwise (· < ·)
 | [], _ => List.Pairwise.nil
 | [a], _ => List.pairwise_singleton _ _
 | a :: b :: l, h => by
  rw [upB_cons] at h
  simp only [Bool.and_eq_true, decide_eq_true_eq] at h
  have ih := up_pw h.2
  refine List.pairwise_cons.2 ⟨fun x hx => ?_, ih⟩
  rcases List.mem_cons.1 hx with rfl | hx
  ·exact h.1
  ·have := (List.pairwise_cons.1 ih).1 x hx
   omega
theorem pairwise_plansP {W : List Int} (hW : upB W = true) : ∀ (d : Nat) (p : List Int), (plansP W d p).Pairwise lexL
 | 0, p => by rw [plansP]; exact List.pairwise_singleton _ _
 | d + 1, p => by
  rw [plansP, List.pairwise_flatMap]
  refine ⟨fun i _ => ?_, ?_⟩
  ·split
   ·exact pairwise_plansP hW d _
   ·exact List.Pairwise.nil
  ·refine List.Pairwise.imp ?_ (up_pw hW)
   intro i j hij x hx y hy
   split at hx
   ·split at hy
    ·obtain ⟨t, rfl, _, _⟩ := (mem_plansP d _ _).1 hx
     obtain ⟨u, rfl, _, _⟩ := (mem_plansP d _ _).1 hy
     rw [List.append_assoc, List.append_assoc, lexL_app]
     exact .inl hij
    ·cases hy
   ·cases hx
theorem work_len {s : GCoatSheet} (h : ShOk s) : s.Work.length ≤ 12 := by
 have hd := h.dk.l
 cases hW : s.Work with
 | nil => simp
 | cons a l =>
  have h1 := upB_len l a ((s.Dry.length : Int) - 1) (by rw [← hW]; exact h.u) (fun d hd => (h.w d (by rw [hW]; exact hd)).2)
  have h2 := h.w a (by rw [hW]; simp)
  simp only [List.length_cons]
  omega
def allP (s : GCoatSheet) : List (List Int) := plansP s.Work s.Coats.length []
theorem rplansR_eq {s : GCoatSheet} (h : ShOk s) : g_ref03_plansR s [] = some (allP s) := by
 have hc := h.c
 exact rplans_eq (work_len h) (by omega) _ 16 [] (by simp) (by omega)
theorem mem_allP {s : GCoatSheet} (h : ShOk s) (q : List Int) : q ∈ allP s ↔ planB s q = true := by
 unfold allP
 rw [mem_plansP]
 unfold planB incB dayB
 simp only [Bool.and_eq_true, decide_eq_true_eq, List.all_eq_true, inB_iff, List.contains_iff_mem, List.nil_append]
 constructor
 ·rintro ⟨t, rfl, hl, hs⟩
  have := (stepsP_nil _).1 hs
  exact ⟨⟨hl, this.2, fun d hd => h.w d (this.1 d hd)⟩, this.1⟩
 ·rintro ⟨⟨hl, hu, _⟩, hm⟩
  exact ⟨q, rfl, hl, (stepsP_nil q).2 ⟨hm, hu⟩⟩
theorem allP_len {s : GCoatSheet} (h : ShOk s) : (allP s).length ≤ 1000000 := by
 have hc := h.c
 have h1 := plansP_len (work_len h) s.Coats.length []
 have hp : 12 ^ s.Coats.length ≤ 12 ^ 5 := Nat.pow_le_pow_right (by omega) (by omega)
 unfold allP
 omega
theorem VP.ofS {s : GCoatSheet} (h : ShOk s) {q : List Int} (h2 : planB s q = true) : VP s.Dry s.Coats q := by
 unfold planB incB at h2
 simp only [Bool.and_eq_true, inB_iff, List.all_eq_true, decide_eq_true_eq] at h2
 refine ⟨h.dk, h.c, h2.1.1, h2.1.2.1, fun x hx => ?_⟩
 have := h2.1.2.2 x hx
 unfold dayB at this
 exact inB_iff.1 this
theorem all_l0 {s : GCoatSheet} (h : ShOk s) : ∀ (p : List (List Int)) (c : Int) (out : List (List Int)), (∀ q ∈ p, planB s q = true) → out.length + p.length ≤ 1000000000 → g_ref03_All_l0 s p c out = some (.go (out ++ p.filter (sureB s.Dry s.Coats)))
 | [], c, out, _, _ => by simp [g_ref03_All_l0]
 | e :: p, c, out, hp, hl => by
  rw [List.length_cons] at hl
  rw [g_ref03_All_l0, rSurely_eq (VP.ofS h (hp e (by simp))), Option.bind_some]
  cases hsu : sureB s.Dry s.Coats e with
  | true =>
   rw [cond_true, show roomOk 24 (out ++ [e]).length = true by simp [roomOk]; omega, cond_true, all_l0 h p (c + 1) _ (fun q hq => hp q (List.mem_cons_of_mem _ hq)) (by simp; omega), List.filter_cons_of_pos hsu]
   simp
  | false =>
   rw [cond_false, all_l0 h p (c + 1) _ (fun q hq => hp q (List.mem_cons_of_mem _ hq)) (by omega), List.filter_cons_of_neg (by rw [hsu]; simp)]
theorem rAll_eq {s : GCoatSheet} (h : ShOk s) : g_ref03_All s = some ((allP s).filter (sureB s.Dry s.Coats)) := by
 have hl := allP_len h
 unfold g_ref03_All
 rw [rplansR_eq h, Option.bind_some, lenOk_of (by omega), cond_true, all_l0 h _ 0 [] (fun q hq => (mem_allP h q).1 hq) (by simp; omega), List.nil_append]
 rfl
theorem allP_plans {s : GCoatSheet} (h : ShOk s) {L : List (List Int)} (hm : ∀ q, q ∈ L ↔ planB s q = true ∧ sureB s.Dry s.Coats q = true) (hp : L.Pairwise lexL) : (allP s).filter (sureB s.Dry s.Coats) = L := by
 refine eq_of_sorted (r := lexL) (fun _ => lexL_irrefl) (fun _ _ _ => lexL_trans) _ _ ((pairwise_plansP h.u _ _).filter _) hp fun x => ?_
 rw [List.mem_filter, mem_allP h, hm]
end Go.V
end
section
namespace Go.V
open Go Go.Proofs
theorem hmix : Tryz.prog.follows .mixedOrders = true := by kernel_rfl
def kA : VV := (Go.V.VV.agg [(Go.V.VV.sl [(Go.V.VV.lit (Go.Value.int Go.IntKind.i64 (Int.ofNat 6))), (Go.V.VV.lit (Go.Value.int Go.IntKind.i64 (Int.ofNat 8))), (Go.V.VV.lit (Go.Value.int Go.IntKind.i64 (Int.ofNat 4))), (Go.V.VV.lit (Go.Value.int Go.IntKind.i64 (Int.ofNat 6))), (Go.V.VV.lit (Go.Value.int Go.IntKind.i64 (Int.ofNat 8))), (Go.V.VV.lit (Go.Value.int Go.IntKind.i64 (Int.ofNat 10))), (Go.V.VV.lit (Go.Value.int Go.IntKind.i64 (Int.ofNat 2))), (Go.V.VV.lit (Go.Value.int Go.IntKind.i64 (Int.ofNat 4))), (Go.V.VV.lit (Go.Value.int Go.IntKind.i64 (Int.ofNat 6))), (Go.V.VV.lit (Go.Value.int Go.IntKind.i64 (Int.ofNat 6))), (Go.V.VV.lit (Go.Value.int Go.IntKind.i64 (Int.ofNat 5))), (Go.V.VV.lit (Go.Value.int Go.IntKind.i64 (Int.ofNat 9))), (Go.V.VV.lit (Go.Value.int Go.IntKind.i64 (Int.ofNat 8))), (Go.V.VV.lit (Go.Value.int Go.IntKind.i64 (Int.ofNat 12))), (Go.V.VV.lit (Go.Value.int Go.IntKind.i64 (Int.ofNat 4))), (Go.V.VV.lit (Go.Value.int Go.IntKind.i64 (Int.ofNat 4)))] 8 Bool.false), (Go.V.VV.sl [(Go.V.VV.lit (Go.Value.int Go.IntKind.i64 (Int.ofNat 0))), (Go.V.VV.lit (Go.Value.int Go.IntKind.i64 (Int.ofNat 2))), (Go.V.VV.lit (Go.Value.int Go.IntKind.i64 (Int.ofNat 3))), (Go.V.VV.lit (Go.Value.int Go.IntKind.i64 (Int.ofNat 5))), (Go.V.VV.lit (Go.Value.int Go.IntKind.i64 (Int.ofNat 6)))] 5 Bool.false), (Go.V.VV.sl [(Go.V.VV.lit (Go.Value.int Go.IntKind.i64 (Int.ofNat 9))), (Go.V.VV.lit (Go.Value.int Go.IntKind.i64 (Int.ofNat 20))), (Go.V.VV.lit (Go.Value.int Go.IntKind.i64 (Int.ofNat 10))), (Go.V.VV.lit (Go.Value.int Go.IntKind.i64 (Int.ofNat 20))), (Go.V.VV.lit (Go.Value.int Go.IntKind.i64 (Int.ofNat 8))), (Go.V.VV.lit (Go.Value.int Go.IntKind.i64 (Int.ofNat 30)))] 3 Bool.false)])
def kB : VV := (Go.V.VV.agg [(Go.V.VV.sl [(Go.V.VV.lit (Go.Value.int Go.IntKind.i64 (Int.ofNat 6))), (Go.V.VV.lit (Go.Value.int Go.IntKind.i64 (Int.ofNat 8))), (Go.V.VV.lit (Go.Value.int Go.IntKind.i64 (Int.ofNat 4))), (Go.V.VV.lit (Go.Value.int Go.IntKind.i64 (Int.ofNat 6))), (Go.V.VV.lit (Go.Value.int Go.IntKind.i64 (Int.ofNat 8))), (Go.V.VV.lit (Go.Value.int Go.IntKind.i64 (Int.ofNat 10))), (Go.V.VV.lit (Go.Value.int Go.IntKind.i64 (Int.ofNat 2))), (Go.V.VV.lit (Go.Value.int Go.IntKind.i64 (Int.ofNat 4))), (Go.V.VV.lit (Go.Value.int Go.IntKind.i64 (Int.ofNat 6))), (Go.V.VV.lit (Go.Value.int Go.IntKind.i64 (Int.ofNat 6))), (Go.V.VV.lit (Go.Value.int Go.IntKind.i64 (Int.ofNat 5))), (Go.V.VV.lit (Go.Value.int Go.IntKind.i64 (Int.ofNat 9))), (Go.V.VV.lit (Go.Value.int Go.IntKind.i64 (Int.ofNat 8))), (Go.V.VV.lit (Go.Value.int Go.IntKind.i64 (Int.ofNat 12))), (Go.V.VV.lit (Go.Value.int Go.IntKind.i64 (Int.ofNat 4))), (Go.V.VV.lit (Go.Value.int Go.IntKind.i64 (Int.ofNat 4)))] 8 Bool.false), (Go.V.VV.sl [(Go.V.VV.lit (Go.Value.int Go.IntKind.i64 (Int.ofNat 0))), (Go.V.VV.lit (Go.Value.int Go.IntKind.i64 (Int.ofNat 2))), (Go.V.VV.lit (Go.Value.int Go.IntKind.i64 (Int.ofNat 3))), (Go.V.VV.lit (Go.Value.int Go.IntKind.i64 (Int.ofNat 5))), (Go.V.VV.lit (Go.Value.int Go.IntKind.i64 (Int.ofNat 6)))] 5 Bool.false), (Go.V.VV.sl [(Go.V.VV.lit (Go.Value.int Go.IntKind.i64 (Int.ofNat 9))), (Go.V.VV.lit (Go.Value.int Go.IntKind.i64 (Int.ofNat 20))), (Go.V.VV.lit (Go.Value.int Go.IntKind.i64 (Int.ofNat 10))), (Go.V.VV.lit (Go.Value.int Go.IntKind.i64 (Int.ofNat 18))), (Go.V.VV.lit (Go.Value.int Go.IntKind.i64 (Int.ofNat 8))), (Go.V.VV.lit (Go.Value.int Go.IntKind.i64 (Int.ofNat 30)))] 3 Bool.false)])
def kE : VV := (Go.V.VV.agg [(Go.V.VV.sl [(Go.V.VV.lit (Go.Value.int Go.IntKind.i64 (Int.ofNat 6))), (Go.V.VV.lit (Go.Value.int Go.IntKind.i64 (Int.ofNat 8))), (Go.V.VV.lit (Go.Value.int Go.IntKind.i64 (Int.ofNat 4))), (Go.V.VV.lit (Go.Value.int Go.IntKind.i64 (Int.ofNat 6))), (Go.V.VV.lit (Go.Value.int Go.IntKind.i64 (Int.ofNat 8))), (Go.V.VV.lit (Go.Value.int Go.IntKind.i64 (Int.ofNat 10))), (Go.V.VV.lit (Go.Value.int Go.IntKind.i64 (Int.ofNat 2))), (Go.V.VV.lit (Go.Value.int Go.IntKind.i64 (Int.ofNat 4))), (Go.V.VV.lit (Go.Value.int Go.IntKind.i64 (Int.ofNat 6))), (Go.V.VV.lit (Go.Value.int Go.IntKind.i64 (Int.ofNat 6))), (Go.V.VV.lit (Go.Value.int Go.IntKind.i64 (Int.ofNat 5))), (Go.V.VV.lit (Go.Value.int Go.IntKind.i64 (Int.ofNat 9))), (Go.V.VV.lit (Go.Value.int Go.IntKind.i64 (Int.ofNat 8))), (Go.V.VV.lit (Go.Value.int Go.IntKind.i64 (Int.ofNat 12))), (Go.V.VV.lit (Go.Value.int Go.IntKind.i64 (Int.ofNat 4))), (Go.V.VV.lit (Go.Value.int Go.IntKind.i64 (Int.ofNat 4)))] 8 Bool.false), (Go.V.VV.sl [(Go.V.VV.lit (Go.Value.int Go.IntKind.i64 (Int.ofNat 0))), (Go.V.VV.lit (Go.Value.int Go.IntKind.i64 (Int.ofNat 1))), (Go.V.VV.lit (Go.Value.int Go.IntKind.i64 (Int.ofNat 2))), (Go.V.VV.lit (Go.Value.int Go.IntKind.i64 (Int.ofNat 3))), (Go.V.VV.lit (Go.Value.int Go.IntKind.i64 (Int.ofNat 4))), (Go.V.VV.lit (Go.Value.int Go.IntKind.i64 (Int.ofNat 5))), (Go.V.VV.lit (Go.Value.int Go.IntKind.i64 (Int.ofNat 6))), (Go.V.VV.lit (Go.Value.int Go.IntKind.i64 (Int.ofNat 7)))] 8 Bool.false), (Go.V.VV.sl [(Go.V.VV.lit (Go.Value.int Go.IntKind.i64 (Int.ofNat 9))), (Go.V.VV.lit (Go.Value.int Go.IntKind.i64 (Int.ofNat 20))), (Go.V.VV.lit (Go.Value.int Go.IntKind.i64 (Int.ofNat 10))), (Go.V.VV.lit (Go.Value.int Go.IntKind.i64 (Int.ofNat 20))), (Go.V.VV.lit (Go.Value.int Go.IntKind.i64 (Int.ofNat 8))), (Go.V.VV.lit (Go.Value.int Go.IntKind.i64 (Int.ofNat 30)))] 3 Bool.false)])
def kHolds : VV := (Go.V.VV.tup [(Go.V.VV.lit (Go.Value.bool Bool.false)), (Go.V.VV.lit (Go.Value.int Go.IntKind.i64 (Int.ofNat 0)))])
def kWord : VV := (Go.V.VV.tup [(Go.V.VV.lit (Go.Value.int Go.IntKind.i64 (Int.ofNat 1))), (Go.V.VV.lit (Go.Value.int Go.IntKind.i64 (Int.ofNat 0)))])
def kFails : VV := (Go.V.VV.tup [(Go.V.VV.lit (Go.Value.int Go.IntKind.i64 (Int.ofNat 0))), (Go.V.VV.lit (Go.Value.int Go.IntKind.i64 (Int.ofNat 2))), (Go.V.VV.lit (Go.Value.int Go.IntKind.i64 (Int.ofNat 0)))])
def kProof : VV := (Go.V.VV.tup [(Go.V.VV.sl [(Go.V.VV.lit (Go.Value.int Go.IntKind.i64 (Int.ofNat 6))), (Go.V.VV.lit (Go.Value.int Go.IntKind.i64 (Int.ofNat 5))), (Go.V.VV.lit (Go.Value.int Go.IntKind.i64 (Int.ofNat 10))), (Go.V.VV.lit (Go.Value.int Go.IntKind.i64 (Int.ofNat 2))), (Go.V.VV.lit (Go.Value.int Go.IntKind.i64 (Int.ofNat 6))), (Go.V.VV.lit (Go.Value.int Go.IntKind.i64 (Int.ofNat 5))), (Go.V.VV.lit (Go.Value.int Go.IntKind.i64 (Int.ofNat 8))), (Go.V.VV.lit (Go.Value.int Go.IntKind.i64 (Int.ofNat 4)))] 8 Bool.false), (Go.V.VV.lit (Go.Value.int Go.IntKind.i64 (Int.ofNat 0)))])
def kFirst : VV := (Go.V.VV.tup [(Go.V.VV.sl [(Go.V.VV.lit (Go.Value.int Go.IntKind.i64 (Int.ofNat 0))), (Go.V.VV.lit (Go.Value.int Go.IntKind.i64 (Int.ofNat 2))), (Go.V.VV.lit (Go.Value.int Go.IntKind.i64 (Int.ofNat 5)))] 3 Bool.false), (Go.V.VV.lit (Go.Value.int Go.IntKind.i64 (Int.ofNat 0)))])
def kCount : VV := (Go.V.VV.tup [(Go.V.VV.lit (Go.Value.int Go.IntKind.i64 (Int.ofNat 5))), (Go.V.VV.lit (Go.Value.int Go.IntKind.i64 (Int.ofNat 0)))])
def kDays : VV := (Go.V.VV.tup [(Go.V.VV.sl [(Go.V.VV.lit (Go.Value.int Go.IntKind.i64 (Int.ofNat 2))), (Go.V.VV.lit (Go.Value.int Go.IntKind.i64 (Int.ofNat 3))), (Go.V.VV.lit (Go.Value.int Go.IntKind.i64 (Int.ofNat 4)))] 3 Bool.false), (Go.V.VV.lit (Go.Value.int Go.IntKind.i64 (Int.ofNat 0)))])
def kLate : VV := (Go.V.VV.tup [(Go.V.VV.lit (Go.Value.int Go.IntKind.i64 (Int.ofNat 2))), (Go.V.VV.lit (Go.Value.int Go.IntKind.i64 (Int.ofNat 0)))])
def kQuick : VV := (Go.V.VV.tup [(Go.V.VV.lit (Go.Value.int Go.IntKind.i64 (Int.ofNat 4))), (Go.V.VV.lit (Go.Value.int Go.IntKind.i64 (Int.ofNat 0)))])
def kStuck : VV := (Go.V.VV.tup [(Go.V.VV.lit (Go.Value.int Go.IntKind.i64 (Int.ofNat 2))), (Go.V.VV.lit (Go.Value.int Go.IntKind.i64 (Int.ofNat 0)))])
def kSlack : VV := (Go.V.VV.tup [(Go.V.VV.lit (Go.Value.int Go.IntKind.i64 (Int.ofNat 2))), (Go.V.VV.lit (Go.Value.int Go.IntKind.i64 (Int.ofNat 0)))])
def kMend : VV := (Go.V.VV.tup [(Go.V.VV.sl [(Go.V.VV.lit (Go.Value.int Go.IntKind.i64 (Int.ofNat 0))), (Go.V.VV.lit (Go.Value.int Go.IntKind.i64 (Int.ofNat 2))), (Go.V.VV.lit (Go.Value.int Go.IntKind.i64 (Int.ofNat 4)))] 3 Bool.false), (Go.V.VV.lit (Go.Value.int Go.IntKind.i64 (Int.ofNat 2))), (Go.V.VV.lit (Go.Value.int Go.IntKind.i64 (Int.ofNat 0)))])
def kRead : VV := (Go.V.VV.tup [(Go.V.VV.agg [(Go.V.VV.sl [(Go.V.VV.lit (Go.Value.int Go.IntKind.i64 (Int.ofNat 1))), (Go.V.VV.lit (Go.Value.int Go.IntKind.i64 (Int.ofNat 2)))] 1 Bool.false), (Go.V.VV.sl [(Go.V.VV.lit (Go.Value.int Go.IntKind.i64 (Int.ofNat 0)))] 1 Bool.false), (Go.V.VV.sl [(Go.V.VV.lit (Go.Value.int Go.IntKind.i64 (Int.ofNat 1))), (Go.V.VV.lit (Go.Value.int Go.IntKind.i64 (Int.ofNat 3)))] 1 Bool.false)]), (Go.V.VV.lit (Go.Value.int Go.IntKind.i64 (Int.ofNat 0)))])
end Go.V
end
section
namespace Go.V
open Go Go.Proofs
theorem pA : VPure Tryz.prog G0 52 [] (.tree kA) := VPure.closedB hmix 1000 (by kernel_rfl)
theorem pB : VPure Tryz.prog G0 55 [] (.tree kB) := VPure.closedB hmix 1000 (by kernel_rfl)
theorem pE : VPure Tryz.prog G0 54 [] (.tree kE) := VPure.closedB hmix 1000 (by kernel_rfl)
theorem pHolds : VPure Tryz.prog G0 51 [kA, .sl [.lit (.int .i64 (0)), .lit (.int .i64 (3)), .lit (.int .i64 (6))] 3 false, .sl [.lit (.int .i64 (6)), .lit (.int .i64 (5)), .lit (.int .i64 (10)), .lit (.int .i64 (2)), .lit (.int .i64 (6)), .lit (.int .i64 (5)), .lit (.int .i64 (8)), .lit (.int .i64 (4))] 8 false] (.tree kHolds) := VPure.closedB hmix 1000 (by kernel_rfl)
theorem pWord : VPure Tryz.prog G0 53 [kA, .sl [.lit (.int .i64 (3)), .lit (.int .i64 (5)), .lit (.int .i64 (6))] 3 false] (.tree kWord) := VPure.closedB hmix 1000 (by kernel_rfl)
theorem pFails : VPure Tryz.prog G0 47 [kA, .sl [.lit (.int .i64 (0)), .lit (.int .i64 (3)), .lit (.int .i64 (6))] 3 false] (.tree kFails) := VPure.closedB hmix 1000 (by kernel_rfl)
end Go.V
end
section
namespace Go.V
open Go Go.Proofs
theorem pProof : VPure Tryz.prog G0 48 [kA, .sl [.lit (.int .i64 (0)), .lit (.int .i64 (3)), .lit (.int .i64 (6))] 3 false] (.tree kProof) := VPure.closedB hmix 1000 (by kernel_rfl)
end Go.V
end
section
namespace Go.V
open Go Go.Proofs
theorem pFirst : VPure Tryz.prog G0 17 [kA] (.tree kFirst) := VPure.closedB hmix 1000 (by kernel_rfl)
end Go.V
end
section
namespace Go.V
open Go Go.Proofs
theorem pCount : VPure Tryz.prog G0 18 [kE] (.tree kCount) := VPure.closedB hmix 1000 (by kernel_rfl)
end Go.V
end
section
namespace Go.V
open Go Go.Proofs
theorem pDays : VPure Tryz.prog G0 26 [kE, .lit (.int .i64 (1))] (.tree kDays) := VPure.closedB hmix 1000 (by kernel_rfl)
end Go.V
end
section
namespace Go.V
open Go Go.Proofs
theorem pLate : VPure Tryz.prog G0 27 [kE] (.tree kLate) := VPure.closedB hmix 1000 (by kernel_rfl)
end Go.V
end
section
namespace Go.V
open Go Go.Proofs
theorem pQuick : VPure Tryz.prog G0 28 [kE] (.tree kQuick) := VPure.closedB hmix 1000 (by kernel_rfl)
end Go.V
end
section
namespace Go.V
open Go Go.Proofs
theorem pStuck : VPure Tryz.prog G0 34 [kB] (.tree kStuck) := VPure.closedB hmix 1000 (by kernel_rfl)
end Go.V
end
section
namespace Go.V
open Go Go.Proofs
theorem pSlack : VPure Tryz.prog G0 38 [kB] (.tree kSlack) := VPure.closedB hmix 1000 (by kernel_rfl)
end Go.V
end
section
namespace Go.V
open Go Go.Proofs
theorem pMend : VPure Tryz.prog G0 41 [kE, .sl [.lit (.int .i64 (0)), .lit (.int .i64 (3)), .lit (.int .i64 (6))] 3 false, .lit (.int .i64 (1))] (.tree kMend) := VPure.closedB hmix 1000 (by kernel_rfl)
end Go.V
end
section
namespace Go.V
open Go Go.Proofs
theorem pRead : VPure Tryz.prog G0 56 [.lit (.string ⟨⟨[100, 97, 121, 32, 49, 32, 50, 32, 121, 101, 115, 10, 99, 111, 97, 116, 32, 49, 32, 51, 10, 101, 110, 100, 32, 49, 48, 52, 10]⟩⟩)] (.tree kRead) := VPure.closedB hmix 1000 (by kernel_rfl)
end Go.V
end
section
namespace Go.V
open Go Go.Proofs
def kTab : KTab := [
  (52, [], kA),
  (55, [], kB),
  (54, [], kE),
  (51, [kA, .sl [.lit (.int .i64 (0)), .lit (.int .i64 (3)), .lit (.int .i64 (6))] 3 false, .sl [.lit (.int .i64 (6)), .lit (.int .i64 (5)), .lit (.int .i64 (10)), .lit (.int .i64 (2)), .lit (.int .i64 (6)), .lit (.int .i64 (5)), .lit (.int .i64 (8)), .lit (.int .i64 (4))] 8 false], kHolds),
  (53, [kA, .sl [.lit (.int .i64 (3)), .lit (.int .i64 (5)), .lit (.int .i64 (6))] 3 false], kWord),
  (47, [kA, .sl [.lit (.int .i64 (0)), .lit (.int .i64 (3)), .lit (.int .i64 (6))] 3 false], kFails),
  (48, [kA, .sl [.lit (.int .i64 (0)), .lit (.int .i64 (3)), .lit (.int .i64 (6))] 3 false], kProof),
  (17, [kA], kFirst),
  (18, [kE], kCount),
  (26, [kE, .lit (.int .i64 (1))], kDays),
  (27, [kE], kLate),
  (28, [kE], kQuick),
  (34, [kB], kStuck),
  (38, [kB], kSlack),
  (41, [kE, .sl [.lit (.int .i64 (0)), .lit (.int .i64 (3)), .lit (.int .i64 (6))] 3 false, .lit (.int .i64 (1))], kMend),
  (56, [.lit (.string ⟨⟨[100, 97, 121, 32, 49, 32, 50, 32, 121, 101, 115, 10, 99, 111, 97, 116, 32, 49, 32, 51, 10, 101, 110, 100, 32, 49, 48, 52, 10]⟩⟩)], kRead)]
theorem kTabOk : KTabOk Tryz.prog G0 kTab := ⟨⟨by kernel_rfl, pA⟩, ⟨⟨by kernel_rfl, pB⟩, ⟨⟨by kernel_rfl, pE⟩, ⟨⟨by kernel_rfl, pHolds⟩, ⟨⟨by kernel_rfl, pWord⟩, ⟨⟨by kernel_rfl, pFails⟩, ⟨⟨by kernel_rfl, pProof⟩, ⟨⟨by kernel_rfl, pFirst⟩, ⟨⟨by kernel_rfl, pCount⟩, ⟨⟨by kernel_rfl, pDays⟩, ⟨⟨by kernel_rfl, pLate⟩, ⟨⟨by kernel_rfl, pQuick⟩, ⟨⟨by kernel_rfl, pStuck⟩, ⟨⟨by kernel_rfl, pSlack⟩, ⟨⟨by kernel_rfl, pMend⟩, ⟨⟨by kernel_rfl, pRead⟩, trivial⟩⟩⟩⟩⟩⟩⟩⟩⟩⟩⟩⟩⟩⟩⟩⟩
theorem pKnown : VPure Tryz.prog G0 16 [] (.tree (.lit (.bool true))) := VPure.closedT hmix kTabOk 1000 (by kernel_rfl)
#print axioms pKnown
end Go.V
end
section
namespace Go.V
open Go Go.Proofs
theorem g_law03_known_ok : VPure Tryz.prog G0 16 [] (.tree (.lit (.bool true))) := pKnown
end Go.V
end
