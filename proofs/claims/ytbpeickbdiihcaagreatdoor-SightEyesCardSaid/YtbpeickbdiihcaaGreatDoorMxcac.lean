/- Part of the proof of statements of YtbpeickbdiihcaaGreatDoor: a logic of values by content, the lifted functions, and what follows. -/
import Derived.Test.YtbpeickbdiihcaaGreatDoorMbd
import Derived.Test.YtbpeickbdiihcaaGreatDoorMbe
import Derived.Test.YtbpeickbdiihcaaGreatDoorMbm
import Derived.Test.YtbpeickbdiihcaaGreatDoorMbf
import Derived.Test.YtbpeickbdiihcaaGreatDoorMbh
import Derived.Test.YtbpeickbdiihcaaGreatDoorMbi
set_option linter.unusedVariables false
set_option linter.unusedSimpArgs false
set_option linter.unusedSectionVars false
set_option linter.constructorNameAsVariable false
section
set_option linter.unusedSimpArgs false
set_option linter.unusedVariables false
set_option maxRecDepth 100000
namespace Go.V
open Go Go.Proofs
def Ok_GSightBoard (x : GSightBoard) : Prop := lenOk x.Letters = true
def Ok_GSightStreet (x : GSightStreet) : Prop := lenOk x.Boards = true ∧ (∀ y ∈ x.Boards, Ok_GSightBoard y) ∧ lenOk x.Blocks = true
section
variable {P : Program} (hu3 : P.underlying 3 = some (.int .i64)) {f23 : Array Field} (hu23 : P.underlying 23 = some (.struct f23)) (ht23 : f23.toList.map Field.type = [3, 3]) {f61 : Array Field} (hu61 : P.underlying 61 = some (.struct f61)) (ht61 : f61.toList.map Field.type = [3, 3, 3, 3]) (hu40 : P.underlying 40 = some (.slice 61)) {f42 : Array Field} (hu42 : P.underlying 42 = some (.struct f42)) (ht42 : f42.toList.map Field.type = [3, 40]) (hu24 : P.underlying 24 = some (.slice 42)) (hu4 : P.underlying 4 = some (.bool)) {f68 : Array Field} (hu68 : P.underlying 68 = some (.struct f68)) (ht68 : f68.toList.map Field.type = [23, 23, 4]) (hu25 : P.underlying 25 = some (.slice 68)) {f27 : Array Field} (hu27 : P.underlying 27 = some (.struct f27)) (ht27 : f27.toList.map Field.type = [3, 3, 23, 23, 24, 25]) {f29 : Array Field} (hu29 : P.underlying 29 = some (.struct f29)) (ht29 : f29.toList.map Field.type = [3, 3])
include hu3 hu23 ht23 hu61 ht61 hu40 hu42 ht42 hu24 hu4 hu68 ht68 hu25 hu27 ht27 hu29 ht29
theorem gd_3 {n : Nat} : Dec P (n + 1) 3 eI (fun _ => True) := dec_int hu3
theorem gd_23 {n : Nat} : Dec P (n + 2) 23 cGSpan (fun _ => True) := by
  intro xs h
  obtain ⟨yss, hf, rfl⟩ := dec_struct (n := n + 1) (ts := [3, 3]) hu23 ht23 h
  match yss, hf with
  | [y0, y1], ⟨h0, h1, _⟩ =>
    obtain ⟨x0, r0, e0⟩ := gd_3 hu3 hu23 ht23 hu61 ht61 hu40 hu42 ht42 hu24 hu4 hu68 ht68 hu25 hu27 ht27 hu29 ht29 (n := n + 0) _ h0
    obtain ⟨x1, r1, e1⟩ := gd_3 hu3 hu23 ht23 hu61 ht61 hu40 hu42 ht42 hu24 hu4 hu68 ht68 hu25 hu27 ht27 hu29 ht29 (n := n + 0) _ h1
    exact ⟨⟨x0, x1⟩, trivial, by simp only [List.flatten_cons, List.flatten_nil, List.append_nil, normL_append, e0, e1, eI, eU8, eB, eS, eSl, cGSpan_eq, List.cons_append, List.nil_append]⟩
theorem gd_61 {n : Nat} : Dec P (n + 2) 61 cGSightLetter (fun _ => True) := by
  intro xs h
  obtain ⟨yss, hf, rfl⟩ := dec_struct (n := n + 1) (ts := [3, 3, 3, 3]) hu61 ht61 h
  match yss, hf with
  | [y0, y1, y2, y3], ⟨h0, h1, h2, h3, _⟩ =>
    obtain ⟨x0, r0, e0⟩ := gd_3 hu3 hu23 ht23 hu61 ht61 hu40 hu42 ht42 hu24 hu4 hu68 ht68 hu25 hu27 ht27 hu29 ht29 (n := n + 0) _ h0
    obtain ⟨x1, r1, e1⟩ := gd_3 hu3 hu23 ht23 hu61 ht61 hu40 hu42 ht42 hu24 hu4 hu68 ht68 hu25 hu27 ht27 hu29 ht29 (n := n + 0) _ h1
    obtain ⟨x2, r2, e2⟩ := gd_3 hu3 hu23 ht23 hu61 ht61 hu40 hu42 ht42 hu24 hu4 hu68 ht68 hu25 hu27 ht27 hu29 ht29 (n := n + 0) _ h2
    obtain ⟨x3, r3, e3⟩ := gd_3 hu3 hu23 ht23 hu61 ht61 hu40 hu42 ht42 hu24 hu4 hu68 ht68 hu25 hu27 ht27 hu29 ht29 (n := n + 0) _ h3
    exact ⟨⟨x0, x1, x2, x3⟩, trivial, by simp only [List.flatten_cons, List.flatten_nil, List.append_nil, normL_append, e0, e1, e2, e3, eI, eU8, eB, eS, eSl, cGSightLetter_eq, List.cons_append, List.nil_append]⟩
theorem gd_40 {n : Nat} : Dec P (n + 3) 40 (eSl cGSightLetter) (fun l => lenOk l = true ∧ ∀ x ∈ l, True) := dec_slice hu40 (gd_61 hu3 hu23 ht23 hu61 ht61 hu40 hu42 ht42 hu24 hu4 hu68 ht68 hu25 hu27 ht27 hu29 ht29 (n := n))
theorem gd_42 {n : Nat} : Dec P (n + 4) 42 cGSightBoard (Ok_GSightBoard) := by
  intro xs h
  obtain ⟨yss, hf, rfl⟩ := dec_struct (n := n + 3) (ts := [3, 40]) hu42 ht42 h
  match yss, hf with
  | [y0, y1], ⟨h0, h1, _⟩ =>
    obtain ⟨x0, r0, e0⟩ := gd_3 hu3 hu23 ht23 hu61 ht61 hu40 hu42 ht42 hu24 hu4 hu68 ht68 hu25 hu27 ht27 hu29 ht29 (n := n + 2) _ h0
    obtain ⟨x1, r1, e1⟩ := gd_40 hu3 hu23 ht23 hu61 ht61 hu40 hu42 ht42 hu24 hu4 hu68 ht68 hu25 hu27 ht27 hu29 ht29 (n := n + 0) _ h1
    exact ⟨⟨x0, x1⟩, r1.1, by simp only [List.flatten_cons, List.flatten_nil, List.append_nil, normL_append, e0, e1, eI, eU8, eB, eS, eSl, cGSightBoard_eq, List.cons_append, List.nil_append]⟩
theorem gd_24 {n : Nat} : Dec P (n + 5) 24 (eSl cGSightBoard) (fun l => lenOk l = true ∧ ∀ x ∈ l, Ok_GSightBoard x) := dec_slice hu24 (gd_42 hu3 hu23 ht23 hu61 ht61 hu40 hu42 ht42 hu24 hu4 hu68 ht68 hu25 hu27 ht27 hu29 ht29 (n := n))
theorem gd_4 {n : Nat} : Dec P (n + 1) 4 eB (fun _ => True) := dec_bool hu4
theorem gd_68 {n : Nat} : Dec P (n + 3) 68 cGSightBlock (fun _ => True) := by
  intro xs h
  obtain ⟨yss, hf, rfl⟩ := dec_struct (n := n + 2) (ts := [23, 23, 4]) hu68 ht68 h
  match yss, hf with
  | [y0, y1, y2], ⟨h0, h1, h2, _⟩ =>
    obtain ⟨x0, r0, e0⟩ := gd_23 hu3 hu23 ht23 hu61 ht61 hu40 hu42 ht42 hu24 hu4 hu68 ht68 hu25 hu27 ht27 hu29 ht29 (n := n + 0) _ h0
    obtain ⟨x1, r1, e1⟩ := gd_23 hu3 hu23 ht23 hu61 ht61 hu40 hu42 ht42 hu24 hu4 hu68 ht68 hu25 hu27 ht27 hu29 ht29 (n := n + 0) _ h1
    obtain ⟨x2, r2, e2⟩ := gd_4 hu3 hu23 ht23 hu61 ht61 hu40 hu42 ht42 hu24 hu4 hu68 ht68 hu25 hu27 ht27 hu29 ht29 (n := n + 1) _ h2
    exact ⟨⟨x0, x1, x2⟩, trivial, by simp only [List.flatten_cons, List.flatten_nil, List.append_nil, normL_append, e0, e1, e2, eI, eU8, eB, eS, eSl, cGSightBlock_eq, cGSpan_eq, List.cons_append, List.nil_append]⟩
theorem gd_25 {n : Nat} : Dec P (n + 4) 25 (eSl cGSightBlock) (fun l => lenOk l = true ∧ ∀ x ∈ l, True) := dec_slice hu25 (gd_68 hu3 hu23 ht23 hu61 ht61 hu40 hu42 ht42 hu24 hu4 hu68 ht68 hu25 hu27 ht27 hu29 ht29 (n := n))
theorem gd_27 {n : Nat} : Dec P (n + 6) 27 cGSightStreet (Ok_GSightStreet) := by
  intro xs h
  obtain ⟨yss, hf, rfl⟩ := dec_struct (n := n + 5) (ts := [3, 3, 23, 23, 24, 25]) hu27 ht27 h
  match yss, hf with
  | [y0, y1, y2, y3, y4, y5], ⟨h0, h1, h2, h3, h4, h5, _⟩ =>
    obtain ⟨x0, r0, e0⟩ := gd_3 hu3 hu23 ht23 hu61 ht61 hu40 hu42 ht42 hu24 hu4 hu68 ht68 hu25 hu27 ht27 hu29 ht29 (n := n + 4) _ h0
    obtain ⟨x1, r1, e1⟩ := gd_3 hu3 hu23 ht23 hu61 ht61 hu40 hu42 ht42 hu24 hu4 hu68 ht68 hu25 hu27 ht27 hu29 ht29 (n := n + 4) _ h1
    obtain ⟨x2, r2, e2⟩ := gd_23 hu3 hu23 ht23 hu61 ht61 hu40 hu42 ht42 hu24 hu4 hu68 ht68 hu25 hu27 ht27 hu29 ht29 (n := n + 3) _ h2
    obtain ⟨x3, r3, e3⟩ := gd_23 hu3 hu23 ht23 hu61 ht61 hu40 hu42 ht42 hu24 hu4 hu68 ht68 hu25 hu27 ht27 hu29 ht29 (n := n + 3) _ h3
    obtain ⟨x4, r4, e4⟩ := gd_24 hu3 hu23 ht23 hu61 ht61 hu40 hu42 ht42 hu24 hu4 hu68 ht68 hu25 hu27 ht27 hu29 ht29 (n := n + 0) _ h4
    obtain ⟨x5, r5, e5⟩ := gd_25 hu3 hu23 ht23 hu61 ht61 hu40 hu42 ht42 hu24 hu4 hu68 ht68 hu25 hu27 ht27 hu29 ht29 (n := n + 1) _ h5
    exact ⟨⟨x0, x1, x2, x3, x4, x5⟩, ⟨r4.1, r4.2, r5.1⟩, by simp only [List.flatten_cons, List.flatten_nil, List.append_nil, normL_append, e0, e1, e2, e3, e4, e5, eI, eU8, eB, eS, eSl, cGSightStreet_eq, cGSpan_eq, List.cons_append, List.nil_append]⟩
theorem gd_29 {n : Nat} : Dec P (n + 2) 29 cGSightPlace (fun _ => True) := by
  intro xs h
  obtain ⟨yss, hf, rfl⟩ := dec_struct (n := n + 1) (ts := [3, 3]) hu29 ht29 h
  match yss, hf with
  | [y0, y1], ⟨h0, h1, _⟩ =>
    obtain ⟨x0, r0, e0⟩ := gd_3 hu3 hu23 ht23 hu61 ht61 hu40 hu42 ht42 hu24 hu4 hu68 ht68 hu25 hu27 ht27 hu29 ht29 (n := n + 0) _ h0
    obtain ⟨x1, r1, e1⟩ := gd_3 hu3 hu23 ht23 hu61 ht61 hu40 hu42 ht42 hu24 hu4 hu68 ht68 hu25 hu27 ht27 hu29 ht29 (n := n + 0) _ h1
    exact ⟨⟨x0, x1⟩, trivial, by simp only [List.flatten_cons, List.flatten_nil, List.append_nil, normL_append, e0, e1, eI, eU8, eB, eS, eSl, cGSightPlace_eq, List.cons_append, List.nil_append]⟩
end
theorem dec_3 {n : Nat} : Dec Tryz.prog (n + 1) 3 eI (fun _ => True) := gd_3 Tryz.underlying3 Tryz.underlying23 (by kernel_rfl) Tryz.underlying61 (by kernel_rfl) Tryz.underlying40 Tryz.underlying42 (by kernel_rfl) Tryz.underlying24 Tryz.underlying4 Tryz.underlying68 (by kernel_rfl) Tryz.underlying25 Tryz.underlying27 (by kernel_rfl) Tryz.underlying29 (by kernel_rfl)
theorem dec_27 {n : Nat} : Dec Tryz.prog (n + 6) 27 cGSightStreet (Ok_GSightStreet) := gd_27 Tryz.underlying3 Tryz.underlying23 (by kernel_rfl) Tryz.underlying61 (by kernel_rfl) Tryz.underlying40 Tryz.underlying42 (by kernel_rfl) Tryz.underlying24 Tryz.underlying4 Tryz.underlying68 (by kernel_rfl) Tryz.underlying25 Tryz.underlying27 (by kernel_rfl) Tryz.underlying29 (by kernel_rfl)
theorem dec_29 {n : Nat} : Dec Tryz.prog (n + 2) 29 cGSightPlace (fun _ => True) := gd_29 Tryz.underlying3 Tryz.underlying23 (by kernel_rfl) Tryz.underlying61 (by kernel_rfl) Tryz.underlying40 Tryz.underlying42 (by kernel_rfl) Tryz.underlying24 Tryz.underlying4 Tryz.underlying68 (by kernel_rfl) Tryz.underlying25 Tryz.underlying27 (by kernel_rfl) Tryz.underlying29 (by kernel_rfl)
end Go.V
end
section
namespace Go.V
open Go
set_option linter.unusedVariables false
set_option linter.unusedSimpArgs false
theorem sq_mono {x y : Int} (h0 : 0 ≤ x) (h : x ≤ y) : x * x ≤ y * y := Int.mul_le_mul h h h0 (Int.le_trans h0 h)
theorem reach_mono {w w' a : Int} {p : GSightPlace} {h : Int} (h0 : 0 ≤ h) (hw : 0 ≤ w) (hw' : w ≤ w') (hr : reachB w a p h = true) : reachB w' a p h = true := by
  unfold reachB at hr ⊢
  have h1 := of_decide_eq_true hr
  have h2 : h * w ≤ h * w' := Int.mul_le_mul_of_nonneg_left hw' h0
  have h3 := sq_mono (Int.mul_nonneg h0 hw) h2
  exact decide_eq_true (Int.le_trans h1 h3)
theorem spread_mono {w w' a : Int} {p : GSightPlace} {h : Int} (h0 : 0 ≤ h) (hq : 0 ≤ p.Across) (hw' : w ≤ w') (hr : spreadB w a p h = true) : spreadB w' a p h = true := by
  unfold spreadB at hr ⊢
  have h1 := of_decide_eq_true hr
  have h2 : h * w ≤ h * w' := Int.mul_le_mul_of_nonneg_left hw' h0
  have h3 : h * w * p.Across ≤ h * w' * p.Across := Int.mul_le_mul_of_nonneg_right h2 hq
  exact decide_eq_true (Int.le_trans h1 h3)
theorem leg_mono {w w' a : Int} {p : GSightPlace} {l : GSightLetter} (hl : BL l) (hp : PG a p) (hw : 0 ≤ w) (hw' : w ≤ w') (h : legB w a p l = true) : legB w' a p l = true := by
  unfold BL at hl
  unfold PG at hp
  obtain ⟨h1, h2, h3⟩ := leg_iff.1 h
  exact leg_iff.2 ⟨reach_mono (by omega) hw hw' h1, spread_mono (by omega) (by omega) hw' h2, reach_mono (by omega) hw hw' h3⟩
theorem apart_mono {w w' a : Int} {p : GSightPlace} {l : GSightLetter} (hl : BL l) (hp : PG a p) (hw' : w ≤ w') (h : apartB w a p l = true) : apartB w' a p l = true := by
  unfold BL at hl
  unfold PG at hp
  exact spread_mono (by omega) (by omega) hw' h
theorem clear_mono {w w' a : Int} {p : GSightPlace} {ls : List GSightLetter} (hl : ∀ l ∈ ls, BL l) (hp : PG a p) (hw : 0 ≤ w) (hw' : w ≤ w') (h : clearB w a p ls = true) : clearB w' a p ls = true := by
  rw [clear_iff] at h ⊢
  exact ⟨fun l h1 => leg_mono (hl l h1) hp hw hw' (h.1 l h1), fun l h1 => apart_mono (hl l (List.mem_of_mem_take h1)) hp hw' (h.2 l h1)⟩
theorem all_less {α : Type} {f g : α → Bool} (l : List α) (h : l.all (fun k => !f k) = true) : l.all (fun k => !(f k && g k)) = true := by
  rw [List.all_eq_true] at h ⊢
  intro x hx
  have := h x hx
  cases hf : f x with
  | false => simp
  | true => rw [hf] at this; cases this
end Go.V
end
section
namespace Go.V
open Go Go.Proofs
set_option linter.unusedSimpArgs false
set_option linter.unusedVariables false
set_option maxRecDepth 4000
set_option maxHeartbeats 4000000
def g_law02_right (x0_s : GSightStreet) (x1_board : Int) (x2_p : GSightPlace) : Option (Bool) := Option.bind (g_law02_short x0_s) (fun r1 => cond (r1) (Option.bind (g_ref02_Street x0_s) (fun r2 => cond (r2) (Option.bind (g_ref02_Board x0_s x1_board) (fun r3 => cond (r3) (Option.bind (g_ref02_Place x0_s x2_p) (fun r4 => some r4)) (some false))) (some false))) (some false))
theorem g_law02_right_ok (x0_s : GSightStreet) (x1_board : Int) (x2_p : GSightPlace) (R : Bool) (h : g_law02_right x0_s x1_board x2_p = some R) : VPure Tryz.prog G0 23 [.agg (cGSightStreet x0_s), .lit (.int .i64 x1_board), .agg (cGSightPlace x2_p)] (.tree (.lit (.bool R))) := by
 refine VPure.runR mixed Tryz.call23 Tryz.func23 rfl (by simp [Tryz.ntmps23]; kernel_rfl) ?_
 obtain ⟨KF, h, kF, kN⟩ := fun_intro h
 simp only [g_law02_right] at h
 cases o6 : (g_law02_short x0_s) with
 | none =>
  simp only [o6, hs, reduceCtorEq] at h
  exact absurd h kN
 | some r5 =>
  simp only [o6, hs, reduceCtorEq] at h
  simp only [vz, tyf, nmB, implies_true, seval]
  refine ktree (args0 := [.agg (cGSightStreet x0_s)]) (by first | (simp only [nrm, tynrm] <;> rfl) | rfl) (by simp only [tre, tytre, Bool.and_self]) (g_law02_short_ok _ _ o6) ?_
  refine fin_cut (fun tm => tm 1 = .lit (.int .i64 x1_board) ∧ tm 3 = .ptr 0 0 ∧ tm 5 = .ptr 1 0 ∧ tm 8 = .lit (.bool r5) ∧ True) (by refine ⟨?_, ?_, ?_, ?_, trivial⟩ <;> first | (simp only [upd_apply, updH_apply, without_apply, mV_app, mV_app0, nmB, implies_true, seval] <;> rfl) | rfl) ?_
  rintro tm ⟨e7, e8, e9, e10, _⟩
  cases d11 : (r5)
  ·simp only [d11, hs, reduceCtorEq] at h
   simp only [vz, tyf, e7, e8, e9, e10, d11, nmB, implies_true, seval]
   refine opd_ret (x := (.lit (.bool false))) (by first | (simp only [Tryz.results23, resV, resL, resV1, tgt_ptr, tgt_tp, upd_apply, updH_apply, without_apply, cr, tyf, e7, e8, e9, e10, d11, nmB, implies_true, seval] <;> rfl) | rfl) ?_
   obtain rfl := kF _ h
   refine rr_tree ?_ ?_
   ·simp only [tre, tytre, Bool.and_self]
   ·first | (simp only [outV, upd_apply, updH_apply, without_apply, showV_ref, cr, tyf, nrm, tynrm, e7, e8, e9, e10, d11, nmB, implies_true, seval] <;> rfl) | rfl
  ·simp only [d11, hs, reduceCtorEq] at h
   cases o13 : (g_ref02_Street x0_s) with
   | none =>
    simp only [o13, hs, reduceCtorEq] at h
    exact absurd h kN
   | some r12 =>
    simp only [o13, hs, reduceCtorEq] at h
    simp only [vz, tyf, e7, e8, e9, e10, d11, nmB, implies_true, seval]
    refine ktree (args0 := [.agg (cGSightStreet x0_s)]) (by first | (simp only [nrm, tynrm] <;> rfl) | rfl) (by simp only [tre, tytre, Bool.and_self]) (g_ref02_Street_ok _ _ o13) ?_
    refine fin_cut (fun tm => tm 1 = .lit (.int .i64 x1_board) ∧ tm 3 = .ptr 0 0 ∧ tm 5 = .ptr 1 0 ∧ tm 9 = .lit (.bool true) ∧ tm 11 = .lit (.bool r12) ∧ True) (by refine ⟨e7, e8, e9, ?_, ?_, trivial⟩ <;> first | (simp only [upd_apply, updH_apply, without_apply, mV_app, mV_app0, e7, e8, e9, e10, d11, nmB, implies_true, seval] <;> rfl) | rfl) ?_
    rintro tm ⟨e14, e15, e16, e17, e18, _⟩
    cases d19 : (r12)
    ·simp only [d19, hs, reduceCtorEq] at h
     simp only [vz, tyf, d11, e14, e15, e16, e17, e18, d19, nmB, implies_true, seval]
     refine opd_ret (x := (.lit (.bool false))) (by first | (simp only [Tryz.results23, resV, resL, resV1, tgt_ptr, tgt_tp, upd_apply, updH_apply, without_apply, cr, tyf, d11, e14, e15, e16, e17, e18, d19, nmB, implies_true, seval] <;> rfl) | rfl) ?_
     obtain rfl := kF _ h
     refine rr_tree ?_ ?_
     ·simp only [tre, tytre, Bool.and_self]
     ·first | (simp only [outV, upd_apply, updH_apply, without_apply, showV_ref, cr, tyf, nrm, tynrm, d11, e14, e15, e16, e17, e18, d19, nmB, implies_true, seval] <;> rfl) | rfl
    ·simp only [d19, hs, reduceCtorEq] at h
     cases o21 : (g_ref02_Board x0_s x1_board) with
     | none =>
      simp only [o21, hs, reduceCtorEq] at h
      exact absurd h kN
     | some r20 =>
      simp only [o21, hs, reduceCtorEq] at h
      simp only [vz, tyf, d11, e14, e15, e16, e17, e18, d19, nmB, implies_true, seval]
      refine ktree (args0 := [.agg (cGSightStreet x0_s), .lit (.int .i64 x1_board)]) (by first | (simp only [nrm, tynrm] <;> rfl) | rfl) (by simp only [tre, tytre, Bool.and_self]) (g_ref02_Board_ok _ _ _ o21) ?_
      refine fin_cut (fun tm => tm 3 = .ptr 0 0 ∧ tm 5 = .ptr 1 0 ∧ tm 13 = .lit (.bool true) ∧ tm 16 = .lit (.bool r20) ∧ True) (by refine ⟨e15, e16, ?_, ?_, trivial⟩ <;> first | (simp only [upd_apply, updH_apply, without_apply, mV_app, mV_app0, d11, e14, e15, e16, e17, e18, d19, nmB, implies_true, seval] <;> rfl) | rfl) ?_
      rintro tm ⟨e22, e23, e24, e25, _⟩
      cases d26 : (r20)
      ·simp only [d26, hs, reduceCtorEq] at h
       simp only [vz, tyf, d11, d19, e22, e23, e24, e25, d26, nmB, implies_true, seval]
       refine opd_ret (x := (.lit (.bool false))) (by first | (simp only [Tryz.results23, resV, resL, resV1, tgt_ptr, tgt_tp, upd_apply, updH_apply, without_apply, cr, tyf, d11, d19, e22, e23, e24, e25, d26, nmB, implies_true, seval] <;> rfl) | rfl) ?_
       obtain rfl := kF _ h
       refine rr_tree ?_ ?_
       ·simp only [tre, tytre, Bool.and_self]
       ·first | (simp only [outV, upd_apply, updH_apply, without_apply, showV_ref, cr, tyf, nrm, tynrm, d11, d19, e22, e23, e24, e25, d26, nmB, implies_true, seval] <;> rfl) | rfl
      ·simp only [d26, hs, reduceCtorEq] at h
       cases o28 : (g_ref02_Place x0_s x2_p) with
       | none =>
        simp only [o28, hs, reduceCtorEq] at h
        exact absurd h kN
       | some r27 =>
        simp only [o28, hs, reduceCtorEq] at h
        simp only [vz, tyf, d11, d19, e22, e23, e24, e25, d26, nmB, implies_true, seval]
        refine ktree (args0 := [.agg (cGSightStreet x0_s), .agg (cGSightPlace x2_p)]) (by first | (simp only [nrm, tynrm] <;> rfl) | rfl) (by simp only [tre, tytre, Bool.and_self]) (g_ref02_Place_ok _ _ _ o28) ?_
        refine fin_cut (fun tm => tm 18 = .lit (.bool true) ∧ tm 21 = .lit (.bool r27) ∧ True) (by refine ⟨?_, ?_, trivial⟩ <;> first | (simp only [upd_apply, updH_apply, without_apply, mV_app, mV_app0, d11, d19, e22, e23, e24, e25, d26, nmB, implies_true, seval] <;> rfl) | rfl) ?_
        rintro tm ⟨e29, e30, _⟩
        simp only [vz, tyf, d11, d19, d26, e29, e30, nmB, implies_true, seval]
        refine opd_ret (x := (.lit (.bool r27))) (by first | (simp only [Tryz.results23, resV, resL, resV1, tgt_ptr, tgt_tp, upd_apply, updH_apply, without_apply, cr, tyf, d11, d19, d26, e29, e30, nmB, implies_true, seval] <;> rfl) | rfl) ?_
        obtain rfl := kF _ h
        refine rr_tree ?_ ?_
        ·simp only [tre, tytre, Bool.and_self]
        ·first | (simp only [outV, upd_apply, updH_apply, without_apply, showV_ref, cr, tyf, nrm, tynrm, d11, d19, d26, e29, e30, nmB, implies_true, seval] <;> rfl) | rfl
end Go.V
end
section
namespace Go.V
open Go Go.Proofs
set_option linter.unusedSimpArgs false
set_option linter.unusedVariables false
set_option maxRecDepth 4000
set_option maxHeartbeats 4000000
def g_law02_word (x0_w : Int) : Option (Bool) := cond (decide (x0_w ≥ 1)) (some (decide (x0_w ≤ 3))) (some false)
theorem g_law02_word_ok (x0_w : Int) (R : Bool) (h : g_law02_word x0_w = some R) : VPure Tryz.prog G0 25 [.lit (.int .i64 x0_w)] (.tree (.lit (.bool R))) := by
 refine VPure.runR mixed Tryz.call25 Tryz.func25 rfl (by simp [Tryz.ntmps25]; kernel_rfl) ?_
 obtain ⟨KF, h, kF, kN⟩ := fun_intro h
 simp only [g_law02_word] at h
 cases d1 : (decide (x0_w ≥ 1))
 ·simp only [d1, hs, reduceCtorEq] at h
  simp only [vz, tyf, d1, nmB, implies_true, seval]
  refine opd_ret (x := (.lit (.bool false))) (by first | (simp only [Tryz.results25, resV, resL, resV1, tgt_ptr, tgt_tp, upd_apply, updH_apply, without_apply, cr, tyf, d1, nmB, implies_true, seval] <;> rfl) | rfl) ?_
  obtain rfl := kF _ h
  refine rr_tree ?_ ?_
  ·simp only [tre, tytre, Bool.and_self]
  ·first | (simp only [outV, upd_apply, updH_apply, without_apply, showV_ref, cr, tyf, nrm, tynrm, d1, nmB, implies_true, seval] <;> rfl) | rfl
 ·simp only [d1, hs, reduceCtorEq] at h
  simp only [vz, tyf, d1, nmB, implies_true, seval]
  refine opd_ret (x := (.lit (.bool (decide (x0_w ≤ 3))))) (by first | (simp only [Tryz.results25, resV, resL, resV1, tgt_ptr, tgt_tp, upd_apply, updH_apply, without_apply, cr, tyf, d1, nmB, implies_true, seval] <;> rfl) | rfl) ?_
  obtain rfl := kF _ h
  refine rr_tree ?_ ?_
  ·simp only [tre, tytre, Bool.and_self]
  ·first | (simp only [outV, upd_apply, updH_apply, without_apply, showV_ref, cr, tyf, nrm, tynrm, d1, nmB, implies_true, seval] <;> rfl) | rfl
end Go.V
end
section
namespace Go.V
open Go Go.Proofs
set_option linter.unusedSimpArgs false
set_option linter.unusedVariables false
set_option maxRecDepth 4000
set_option maxHeartbeats 4000000
def g_law02_span (x0_low : Int) (x1_high : Int) : Option (GSpan) := some (GSpan.mk x0_low x1_high)
theorem g_law02_span_ok (x0_low : Int) (x1_high : Int) (R : GSpan) (h : g_law02_span x0_low x1_high = some R) : VPure Tryz.prog G0 47 [.lit (.int .i64 x0_low), .lit (.int .i64 x1_high)] (.tree (.agg (cGSpan R))) := by
 refine VPure.runR mixed Tryz.call47 Tryz.func47 rfl (by simp [Tryz.ntmps47]; kernel_rfl) ?_
 obtain ⟨KF, h, kF, kN⟩ := fun_intro h
 simp only [g_law02_span] at h
 simp only [vz, tyf, nmB, implies_true, seval]
 refine opd_ret (x := (.agg ([.lit (.int .i64 x0_low)] ++ [.lit (.int .i64 x1_high)]))) (by first | (simp only [Tryz.results47, resV, resL, resV1, tgt_ptr, tgt_tp, upd_apply, updH_apply, without_apply, cr, tyf, nmB, implies_true, seval] <;> rfl) | rfl) ?_
 obtain rfl := kF _ h
 refine rr_tree ?_ ?_
 ·simp only [tre, tytre, Bool.and_self]
 ·first | (simp only [outV, upd_apply, updH_apply, without_apply, showV_ref, cr, tyf, nrm, tynrm, nmB, implies_true, seval] <;> rfl) | rfl
end Go.V
end
section
namespace Go.V
open Go Go.Proofs
set_option linter.unusedSimpArgs false
set_option linter.unusedVariables false
set_option maxRecDepth 4000
set_option maxHeartbeats 4000000
def g_law02_eyed (x0_s : GSightStreet) (x1_eye : Int) (x2_light : Int) : Option (GSightStreet) := Option.bind (g_law02_span x1_eye x1_eye) (fun r1 => Option.bind (g_law02_span x2_light x2_light) (fun r2 => some (GSightStreet.mk x0_s.Length x0_s.Width r1 r2 x0_s.Boards x0_s.Blocks)))
theorem g_law02_eyed_ok (x0_s : GSightStreet) (x1_eye : Int) (x2_light : Int) (R : GSightStreet) (h : g_law02_eyed x0_s x1_eye x2_light = some R) : VPure Tryz.prog G0 24 [.agg (cGSightStreet x0_s), .lit (.int .i64 x1_eye), .lit (.int .i64 x2_light)] (.tree (.agg (cGSightStreet R))) := by
 refine VPure.runR mixed Tryz.call24 Tryz.func24 rfl (by simp [Tryz.ntmps24]; kernel_rfl) ?_
 obtain ⟨KF, h, kF, kN⟩ := fun_intro h
 simp only [g_law02_eyed] at h
 cases o4 : (g_law02_span x1_eye x1_eye) with
 | none =>
  simp only [o4, hs, reduceCtorEq] at h
  exact absurd h kN
 | some r3 =>
  simp only [o4, hs, reduceCtorEq] at h
  simp only [vz, tyf, nmB, implies_true, seval]
  refine ktree (args0 := [.lit (.int .i64 x1_eye), .lit (.int .i64 x1_eye)]) (by first | (simp only [nrm, tynrm] <;> rfl) | rfl) (by simp only [tre, tytre, Bool.and_self]) (g_law02_span_ok _ _ _ o4) ?_
  refine fin_cut (fun tm => tm 2 = .lit (.int .i64 x2_light) ∧ tm 3 = .ptr 0 0 ∧ tm 6 = .ptr 1 0 ∧ tm 9 = .agg (cGSpan r3) ∧ True) (by refine ⟨?_, ?_, ?_, ?_, trivial⟩ <;> first | (simp only [upd_apply, updH_apply, without_apply, mV_app, mV_app0, nmB, implies_true, seval] <;> rfl) | rfl) ?_
  rintro tm ⟨e5, e6, e7, e8, _⟩
  cases o10 : (g_law02_span x2_light x2_light) with
  | none =>
   simp only [o10, hs, reduceCtorEq] at h
   exact absurd h kN
  | some r9 =>
   simp only [o10, hs, reduceCtorEq] at h
   simp only [vz, tyf, e5, e6, e7, e8, nmB, implies_true, seval]
   refine ktree (args0 := [.lit (.int .i64 x2_light), .lit (.int .i64 x2_light)]) (by first | (simp only [nrm, tynrm] <;> rfl) | rfl) (by simp only [tre, tytre, Bool.and_self]) (g_law02_span_ok _ _ _ o10) ?_
   refine fin_cut (fun tm => tm 3 = .ptr 0 0 ∧ tm 6 = .ptr 1 0 ∧ tm 9 = .agg (cGSpan r3) ∧ tm 12 = .agg (cGSpan r9) ∧ True) (by refine ⟨e6, e7, e8, ?_, trivial⟩ <;> first | (simp only [upd_apply, updH_apply, without_apply, mV_app, mV_app0, e5, e6, e7, e8, nmB, implies_true, seval] <;> rfl) | rfl) ?_
   rintro tm ⟨e11, e12, e13, e14, _⟩
   simp only [vz, tyf, e11, e12, e13, e14, nmB, implies_true, seval]
   refine opd_ret (x := (.agg ([.lit (.int .i64 x0_s.Length)] ++ [.lit (.int .i64 x0_s.Width)] ++ (cGSpan r3) ++ (cGSpan r9) ++ [.sl (cellsL cGSightBoard x0_s.Boards) (List.length x0_s.Boards) false] ++ [.sl (cellsL cGSightBlock x0_s.Blocks) (List.length x0_s.Blocks) false]))) (by first | (simp only [Tryz.results24, resV, resL, resV1, tgt_ptr, tgt_tp, upd_apply, updH_apply, without_apply, cr, tyf, e11, e12, e13, e14, nmB, implies_true, seval] <;> rfl) | rfl) ?_
   obtain rfl := kF _ h
   refine rr_tree ?_ ?_
   ·simp only [tre, tytre, Bool.and_self]
   ·first | (simp only [outV, upd_apply, updH_apply, without_apply, showV_ref, cr, tyf, nrm, tynrm, e11, e12, e13, e14, nmB, implies_true, seval] <;> rfl) | rfl
end Go.V
end
