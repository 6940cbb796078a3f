/- Part of a proof: a logic of values by content, lifted functions, what follows. -/
import Derived.Test.YtdhkepdioiicfaaGreatDoorBbc
import Derived.Test.YtdhkepdioiicfaaGreatDoorBbd
import Derived.Test.YtdhkepdioiicfaaGreatDoorBbk
import Derived.Test.YtdhkepdioiicfaaGreatDoorBbf
import Derived.Test.YtdhkepdioiicfaaGreatDoorBbj
import Derived.Test.YtdhkepdioiicfaaGreatDoorBbm
import Derived.Test.YtdhkepdioiicfaaGreatDoorBbo
import Derived.Test.YtdhkepdioiicfaaGreatDoorBbg
import Derived.Test.YtdhkepdioiicfaaGreatDoorBbn
set_option linter.all false
set_option maxRecDepth 4000
set_option maxHeartbeats 4000000
section
set_option maxRecDepth 100000
namespace Go.V
open Go Go.Proofs
def Ok_GSightBoard (x : GSightBoard) : Prop := lenOk x.Letters = true
def Ok_GSightStreet (x : GSightStreet) : Prop := lenOk x.Boards = true ∧ (∀ y ∈ x.Boards, Ok_GSightBoard y) ∧ lenOk x.Blocks = true
section
variable {P : Program} (hu3 : P.underlying 3 = some (.int .i64)) {f23 : Array Field} (hu23 : P.underlying 23 = some (.struct f23)) (ht23 : f23.toList.map Field.type = [3, 3]) {f66 : Array Field} (hu66 : P.underlying 66 = some (.struct f66)) (ht66 : f66.toList.map Field.type = [3, 3, 3, 3]) (hu38 : P.underlying 38 = some (.slice 66)) {f40 : Array Field} (hu40 : P.underlying 40 = some (.struct f40)) (ht40 : f40.toList.map Field.type = [3, 38]) (hu24 : P.underlying 24 = some (.slice 40)) (hu4 : P.underlying 4 = some (.bool)) {f69 : Array Field} (hu69 : P.underlying 69 = some (.struct f69)) (ht69 : f69.toList.map Field.type = [23, 23, 4]) (hu25 : P.underlying 25 = some (.slice 69)) {f27 : Array Field} (hu27 : P.underlying 27 = some (.struct f27)) (ht27 : f27.toList.map Field.type = [3, 3, 23, 23, 24, 25])
include hu3 hu23 ht23 hu66 ht66 hu38 hu40 ht40 hu24 hu4 hu69 ht69 hu25 hu27 ht27
theorem gd_3 {n : Nat} : Dec P (n + 1) 3 eI (fun _ => True) := dec_int hu3
theorem gd_23 {n : Nat} : Dec P (n + 2) 23 cGSpan (fun _ => True) := by
 intro xs h
 obtain ⟨yss, hf, rfl⟩ := dec_struct (n := n + 1) (ts := [3, 3]) hu23 ht23 h
 match yss, hf with
 | [y0, y1], ⟨h0, h1, _⟩ =>
  obtain ⟨x0, r0, e0⟩ := gd_3 hu3 hu23 ht23 hu66 ht66 hu38 hu40 ht40 hu24 hu4 hu69 ht69 hu25 hu27 ht27 (n := n + 0) _ h0
  obtain ⟨x1, r1, e1⟩ := gd_3 hu3 hu23 ht23 hu66 ht66 hu38 hu40 ht40 hu24 hu4 hu69 ht69 hu25 hu27 ht27 (n := n + 0) _ h1
  exact ⟨⟨x0, x1⟩, trivial, by simp only [List.flatten_cons, List.flatten_nil, List.append_nil, normL_append, e0, e1, eI, eU8, eB, eS, eSl, cGSpan_eq, List.cons_append, List.nil_append]⟩
theorem gd_66 {n : Nat} : Dec P (n + 2) 66 cGSightLetter (fun _ => True) := by
 intro xs h
 obtain ⟨yss, hf, rfl⟩ := dec_struct (n := n + 1) (ts := [3, 3, 3, 3]) hu66 ht66 h
 match yss, hf with
 | [y0, y1, y2, y3], ⟨h0, h1, h2, h3, _⟩ =>
  obtain ⟨x0, r0, e0⟩ := gd_3 hu3 hu23 ht23 hu66 ht66 hu38 hu40 ht40 hu24 hu4 hu69 ht69 hu25 hu27 ht27 (n := n + 0) _ h0
  obtain ⟨x1, r1, e1⟩ := gd_3 hu3 hu23 ht23 hu66 ht66 hu38 hu40 ht40 hu24 hu4 hu69 ht69 hu25 hu27 ht27 (n := n + 0) _ h1
  obtain ⟨x2, r2, e2⟩ := gd_3 hu3 hu23 ht23 hu66 ht66 hu38 hu40 ht40 hu24 hu4 hu69 ht69 hu25 hu27 ht27 (n := n + 0) _ h2
  obtain ⟨x3, r3, e3⟩ := gd_3 hu3 hu23 ht23 hu66 ht66 hu38 hu40 ht40 hu24 hu4 hu69 ht69 hu25 hu27 ht27 (n := n + 0) _ h3
  exact ⟨⟨x0, x1, x2, x3⟩, trivial, by simp only [List.flatten_cons, List.flatten_nil, List.append_nil, normL_append, e0, e1, e2, e3, eI, eU8, eB, eS, eSl, cGSightLetter_eq, List.cons_append, List.nil_append]⟩
theorem gd_38 {n : Nat} : Dec P (n + 3) 38 (eSl cGSightLetter) (fun l => lenOk l = true ∧ ∀ x ∈ l, True) := dec_slice hu38 (gd_66 hu3 hu23 ht23 hu66 ht66 hu38 hu40 ht40 hu24 hu4 hu69 ht69 hu25 hu27 ht27 (n := n))
theorem gd_40 {n : Nat} : Dec P (n + 4) 40 cGSightBoard (Ok_GSightBoard) := by
 intro xs h
 obtain ⟨yss, hf, rfl⟩ := dec_struct (n := n + 3) (ts := [3, 38]) hu40 ht40 h
 match yss, hf with
 | [y0, y1], ⟨h0, h1, _⟩ =>
  obtain ⟨x0, r0, e0⟩ := gd_3 hu3 hu23 ht23 hu66 ht66 hu38 hu40 ht40 hu24 hu4 hu69 ht69 hu25 hu27 ht27 (n := n + 2) _ h0
  obtain ⟨x1, r1, e1⟩ := gd_38 hu3 hu23 ht23 hu66 ht66 hu38 hu40 ht40 hu24 hu4 hu69 ht69 hu25 hu27 ht27 (n := n + 0) _ h1
  exact ⟨⟨x0, x1⟩, r1.1, by simp only [List.flatten_cons, List.flatten_nil, List.append_nil, normL_append, e0, e1, eI, eU8, eB, eS, eSl, cGSightBoard_eq, List.cons_append, List.nil_append]⟩
theorem gd_24 {n : Nat} : Dec P (n + 5) 24 (eSl cGSightBoard) (fun l => lenOk l = true ∧ ∀ x ∈ l, Ok_GSightBoard x) := dec_slice hu24 (gd_40 hu3 hu23 ht23 hu66 ht66 hu38 hu40 ht40 hu24 hu4 hu69 ht69 hu25 hu27 ht27 (n := n))
theorem gd_4 {n : Nat} : Dec P (n + 1) 4 eB (fun _ => True) := dec_bool hu4
theorem gd_69 {n : Nat} : Dec P (n + 3) 69 cGSightBlock (fun _ => True) := by
 intro xs h
 obtain ⟨yss, hf, rfl⟩ := dec_struct (n := n + 2) (ts := [23, 23, 4]) hu69 ht69 h
 match yss, hf with
 | [y0, y1, y2], ⟨h0, h1, h2, _⟩ =>
  obtain ⟨x0, r0, e0⟩ := gd_23 hu3 hu23 ht23 hu66 ht66 hu38 hu40 ht40 hu24 hu4 hu69 ht69 hu25 hu27 ht27 (n := n + 0) _ h0
  obtain ⟨x1, r1, e1⟩ := gd_23 hu3 hu23 ht23 hu66 ht66 hu38 hu40 ht40 hu24 hu4 hu69 ht69 hu25 hu27 ht27 (n := n + 0) _ h1
  obtain ⟨x2, r2, e2⟩ := gd_4 hu3 hu23 ht23 hu66 ht66 hu38 hu40 ht40 hu24 hu4 hu69 ht69 hu25 hu27 ht27 (n := n + 1) _ h2
  exact ⟨⟨x0, x1, x2⟩, trivial, by simp only [List.flatten_cons, List.flatten_nil, List.append_nil, normL_append, e0, e1, e2, eI, eU8, eB, eS, eSl, cGSightBlock_eq, cGSpan_eq, List.cons_append, List.nil_append]⟩
theorem gd_25 {n : Nat} : Dec P (n + 4) 25 (eSl cGSightBlock) (fun l => lenOk l = true ∧ ∀ x ∈ l, True) := dec_slice hu25 (gd_69 hu3 hu23 ht23 hu66 ht66 hu38 hu40 ht40 hu24 hu4 hu69 ht69 hu25 hu27 ht27 (n := n))
theorem gd_27 {n : Nat} : Dec P (n + 6) 27 cGSightStreet (Ok_GSightStreet) := by
 intro xs h
 obtain ⟨yss, hf, rfl⟩ := dec_struct (n := n + 5) (ts := [3, 3, 23, 23, 24, 25]) hu27 ht27 h
 match yss, hf with
 | [y0, y1, y2, y3, y4, y5], ⟨h0, h1, h2, h3, h4, h5, _⟩ =>
  obtain ⟨x0, r0, e0⟩ := gd_3 hu3 hu23 ht23 hu66 ht66 hu38 hu40 ht40 hu24 hu4 hu69 ht69 hu25 hu27 ht27 (n := n + 4) _ h0
  obtain ⟨x1, r1, e1⟩ := gd_3 hu3 hu23 ht23 hu66 ht66 hu38 hu40 ht40 hu24 hu4 hu69 ht69 hu25 hu27 ht27 (n := n + 4) _ h1
  obtain ⟨x2, r2, e2⟩ := gd_23 hu3 hu23 ht23 hu66 ht66 hu38 hu40 ht40 hu24 hu4 hu69 ht69 hu25 hu27 ht27 (n := n + 3) _ h2
  obtain ⟨x3, r3, e3⟩ := gd_23 hu3 hu23 ht23 hu66 ht66 hu38 hu40 ht40 hu24 hu4 hu69 ht69 hu25 hu27 ht27 (n := n + 3) _ h3
  obtain ⟨x4, r4, e4⟩ := gd_24 hu3 hu23 ht23 hu66 ht66 hu38 hu40 ht40 hu24 hu4 hu69 ht69 hu25 hu27 ht27 (n := n + 0) _ h4
  obtain ⟨x5, r5, e5⟩ := gd_25 hu3 hu23 ht23 hu66 ht66 hu38 hu40 ht40 hu24 hu4 hu69 ht69 hu25 hu27 ht27 (n := n + 1) _ h5
  exact ⟨⟨x0, x1, x2, x3, x4, x5⟩, ⟨r4.1, r4.2, r5.1⟩, by simp only [List.flatten_cons, List.flatten_nil, List.append_nil, normL_append, e0, e1, e2, e3, e4, e5, eI, eU8, eB, eS, eSl, cGSightStreet_eq, cGSpan_eq, List.cons_append, List.nil_append]⟩
end
theorem dec_3 {n : Nat} : Dec Tryz.prog (n + 1) 3 eI (fun _ => True) := gd_3 Tryz.underlying3 Tryz.underlying23 (by kernel_rfl) Tryz.underlying66 (by kernel_rfl) Tryz.underlying38 Tryz.underlying40 (by kernel_rfl) Tryz.underlying24 Tryz.underlying4 Tryz.underlying69 (by kernel_rfl) Tryz.underlying25 Tryz.underlying27 (by kernel_rfl)
theorem dec_27 {n : Nat} : Dec Tryz.prog (n + 6) 27 cGSightStreet (Ok_GSightStreet) := gd_27 Tryz.underlying3 Tryz.underlying23 (by kernel_rfl) Tryz.underlying66 (by kernel_rfl) Tryz.underlying38 Tryz.underlying40 (by kernel_rfl) Tryz.underlying24 Tryz.underlying4 Tryz.underlying69 (by kernel_rfl) Tryz.underlying25 Tryz.underlying27 (by kernel_rfl)
end Go.V
end
section
namespace Go.V
open Go Go.Proofs
def g_ref02_Both_l0 (x0_s : GSightStreet) (x2_other : GSightBoard) : List GSightPlace → Int → (List GSightPlace) → Option (LOut (List GSightPlace) ((List GSightPlace)))
 | [], c0_9, c0_8 => some (.go c0_8)
 | e0 :: p0, c0_9, c0_8 => Option.bind (g_ref02_Surely x0_s x2_other e0) (fun r2 => cond (r2) (cond (roomOk 16 (List.length (c0_8 ++ [e0]))) (g_ref02_Both_l0 x0_s x2_other p0 (c0_9 + 1) (c0_8 ++ [e0])) none) (g_ref02_Both_l0 x0_s x2_other p0 (c0_9 + 1) c0_8))
def g_ref02_Both (x0_s : GSightStreet) (x1_one : GSightBoard) (x2_other : GSightBoard) : Option (List GSightPlace) := Option.bind (g_ref02_From x0_s x1_one) (fun r1 => cond (lenOk r1) (lbind (g_ref02_Both_l0 x0_s x2_other r1 0 ([] : List GSightPlace)) (fun r4 => some r4) (fun c3 => some c3) (fun _ _ => none)) none)
theorem g_ref02_Both_ok (x0_s : GSightStreet) (x1_one : GSightBoard) (x2_other : GSightBoard) (R : List GSightPlace) (h : g_ref02_Both x0_s x1_one x2_other = some R) : VPure Tryz.prog G0 31 [.agg (cGSightStreet x0_s), .agg (cGSightBoard x1_one), .agg (cGSightBoard x2_other)] (.tree (.sl (cellsL cGSightPlace R) (List.length R) false)) := by
 refine VPure.runR mixed Tryz.call31 Tryz.func31 rfl (by simp [Tryz.ntmps31]; kernel_rfl) ?_
 obtain ⟨KF, h, kF, kN⟩ := fun_intro h
 simp only [g_ref02_Both] at h
 rcases o6 : (g_ref02_From x0_s x1_one) with _ | r5
 ·simp only [o6, hs] at h
  exact absurd h kN
 simp only [o6, hs] at h
 simp only [vz, mq, mqm, tyf, mqt, nm, seval]
 refine ktree (args0 := [.agg (cGSightStreet x0_s), .agg (cGSightBoard x1_one)]) (by first | (simp only [nrm, tynrm] <;> rfl) | rfl) (by simp only [tre, tytre, Bool.and_self]) (g_ref02_From_ok _ _ _ o6) ?_
 refine fin_cut (fun tm => tm 3 = .ptr 0 0 ∧ tm 5 = .ptr 2 0 ∧ tm 12 = .sl (cellsL cGSightPlace r5) (List.length r5) false ∧ True) (by refine ⟨?_, ?_, ?_, trivial⟩ <;> first | (simp only [ua, encM_nil, nm, seval] <;> rfl) | rfl) ?_
 rintro tm ⟨e7, e8, e9, _⟩
 cases g11 : (lenOk r5)
 ·simp only [g11, hs] at h
  exact absurd h kN
 simp only [g11, hs] at h
 simp only [vz, mq, mqm, tyf, mqt, e7, e8, e9, g11, nm, seval]
 obtain ⟨K10, h, kR10, kG10, kB10, kN10⟩ := lbind_intro h kN
 obtain ⟨f10, hf10, h⟩ := call3 h
 obtain ⟨I10, hI10⟩ : ∃ I : Nat → St → Prop, I = (fun m st => ∃ (p10 : List GSightPlace) (c10_9 : Int) (c10_8 : List GSightPlace) (y10_0 : VV), m = List.length p10 ∧ 0 ≤ c10_9 ∧ List.drop (Int.toNat c10_9) r5 = p10 ∧ st.df = [] ∧ 10 ≤ st.nx ∧ st.H 0 = some (.cells (some 27) (cGSightStreet x0_s)) ∧ st.H 2 = some (.cells (some 40) (cGSightBoard x2_other)) ∧ st.tm 3 = .ptr 0 0 ∧ st.tm 5 = .ptr 2 0 ∧ st.tm 7 = .sl (cellsL cGSightPlace r5) (List.length r5) false ∧ st.tm 8 = y10_0 ∧ st.tm 9 = .lit (.int .i64 c10_9) ∧ ((∃ (β : Nat) (el : Option TypeId), y10_0 = .ref β 0 (List.length c10_8) 2 (List.length c10_8) ∧ β < st.nx ∧ β ≠ 0 ∧ β ≠ 2 ∧ st.H β = some (.cells el (cellsL cGSightPlace c10_8))) ∨ (y10_0 = .lit (.slice none 0 0) ∧ c10_8 = [])) ∧ K10 (f10 p10 c10_9 c10_8)) := ⟨_, rfl⟩
 refine loopK mixed (by kernel_rfl) I10 (List.length r5) (by rw [hI10]; refine ⟨r5, 0, ([] : List GSightPlace), .lit (.slice none 0 0), rfl, Int.le_refl _, rfl, rfl, (show 10 ≤ 10 by omega), ?_, ?_, e7, e8, ?_, ?_, ?_, Or.inr ⟨rfl, rfl⟩, h⟩ <;> first | (simp only [ua, encM_nil, e7, e8, e9, nm, seval] <;> rfl) | rfl) ?_
 rintro m ⟨tm, H, nx10, df⟩ hinv
 rw [hI10] at hinv
 obtain ⟨p10, c10_9, c10_8, y10_0, rfl, hi10, hp10, hdf, hn10, H12, H13, e14, e15, e16, e17, e18, ow10_0, h⟩ := hinv
 simp only at hdf hn10 H12 H13 e14 e15 e16 e17 e18 ow10_0
 have n19 := base_ne0 (m := 10) (b := nx10) (by omega)
 subst hdf hf10
 rcases ow10_0 with ⟨b10_0, el10_0, rfl, lq21, lq22, lq23, H20⟩ | ⟨rfl, rfl⟩
 ·have q21 := own_lt lq21
  have q22 := ne_f lq22
  have q23 := ne_f lq23
  cases p10 with
  | nil =>
   have d24 : (decide (c10_9 < (List.length r5 : Int))) = false := not_lt_of_drop hi10 hp10
   simp only [g_ref02_Both_l0, hs, reduceCtorEq] at h
   replace h := kG10 _ h
   try dsimp only at h
   try simp only [hs] at h
   try simp only [vz, mq, mqm, tyf, mqt, g11, n19, e14, e15, e16, e17, e18, H12, H13, q21, H20, q22, q23, d24, nm, seval]
   refine opd_ret (x := (.ref b10_0 0 (List.length c10_8) 2 (List.length c10_8))) (by first | (simp only [Tryz.results31, resV, resL, resV1, tgt_ptr, tgt_tp, uw, cr, tyf, mqt, g11, n19, H12, H13, q21, H20, q22, q23, d24, nm, seval] <;> rfl) | rfl) ?_
   obtain rfl := kF _ h
   refine rr_tree ?_ ?_
   ·simp only [tre, tytre, Bool.and_self]
   ·first | (simp only [outV, uw, showV_ref, cr, tyf, mqt, nrm, tynrm, g11, n19, e14, e15, e16, e17, e18, H12, H13, q21, H20, q22, q23, d24, nm, seval] <;> rfl) | rfl
  | cons e10 p10 =>
   have d25 : (decide (c10_9 < (List.length r5 : Int))) = true := lt_of_drop hi10 hp10
   have o27 := getI_of_drop hi10 hp10
   have w26 := wrap_next hi10 hp10 g11
   simp only [g_ref02_Both_l0, hs, reduceCtorEq] at h
   simp only [vz, mq, mqm, tyf, mqt, g11, n19, e14, e15, e16, e17, e18, H12, H13, q21, H20, q22, q23, d25, (ix41 o27), w26, nm, seval]
   refine cwp_drwQF (fun tm => tm 3 = .ptr 0 0 ∧ tm 5 = .ptr 2 0 ∧ tm 7 = .sl (cellsL cGSightPlace r5) (List.length r5) false ∧ tm 8 = .ref b10_0 0 (List.length c10_8) 2 (List.length c10_8) ∧ tm 9 = .lit (.int .i64 c10_9) ∧ True) (by refine ⟨e14, e15, e16, e17, e18, trivial⟩ <;> first | (simp only [ua, encM_nil, n19, e14, e15, e16, e17, e18, H12, H13, q21, H20, q22, q23, d25, w26, nm, seval] <;> rfl) | rfl) ?_
   rintro tm ⟨e28, e29, e30, e31, e32, _⟩
   have b33 := And.intro g11 (And.intro n19 (And.intro H12 (And.intro H13 (And.intro q21 (And.intro H20 (And.intro q22 (And.intro q23 (And.intro d25 w26))))))))
   rcases o35 : (g_ref02_Surely x0_s x2_other e10) with _ | r34
   ·simp only [o35, hs] at h
    exact absurd h kN10
   simp only [o35, hs] at h
   simp only [vz, mq, mqm, tyf, mqt, b33, (ix41 o27), e28, e29, e30, e31, e32, nm, seval]
   refine dktree (args0 := [.agg (cGSightStreet x0_s), .agg (cGSightBoard x2_other), .agg (cGSightPlace e10)]) (by first | (simp only [nrm, tynrm] <;> rfl) | rfl) (by simp only [tre, tytre, Bool.and_self]) (g_ref02_Surely_ok _ _ _ _ o35) ?_
   refine fin_cut (fun tm => tm 3 = .ptr 0 0 ∧ tm 5 = .ptr 2 0 ∧ tm 7 = .sl (cellsL cGSightPlace r5) (List.length r5) false ∧ tm 8 = .ref b10_0 0 (List.length c10_8) 2 (List.length c10_8) ∧ tm 9 = .lit (.int .i64 c10_9) ∧ tm 25 = .lit (.bool r34) ∧ True) (by refine ⟨e28, e29, e30, e31, e32, ?_, trivial⟩ <;> first | (simp only [ua, encM_nil, b33, e28, e29, e30, e31, e32, nm, seval] <;> rfl) | rfl) ?_
   rintro tm ⟨e36, e37, e38, e39, e40, e41, _⟩
   cases d42 : (r34)
   ·simp only [d42, hs] at h
    simp only [vz, mq, mqm, tyf, mqt, b33, (ix41 o27), e36, e37, e38, e39, e40, e41, d42, nm, seval]
    exact ⟨List.length p10, Nat.lt_succ_self _, by rw [hI10]; refine ⟨p10, c10_9 + 1, c10_8, .ref b10_0 0 (List.length c10_8) 2 (List.length c10_8), rfl, Int.le_trans hi10 (Int.le_add_one (Int.le_refl _)), drop_next hi10 hp10, rfl, (show 10 ≤ nx10 + 14 by omega), ?_, ?_, e36, e37, e38, ?_, ?_, Or.inl ⟨b10_0, el10_0, rfl, (by first | omega | (simp only [nm, seval]; omega)), (by first | omega | (intro hh; simp only [b33, reduceCtorEq] at hh)), (by first | omega | (intro hh; simp only [b33, reduceCtorEq] at hh)), ?_⟩, h⟩ <;> first | (simp only [ua, encM_nil, b33, e36, e37, e38, e39, e40, e41, d42, nm, seval] <;> rfl) | rfl⟩
   simp only [d42, hs] at h
   cases g43 : (roomOk 16 (List.length (c10_8 ++ [e10])))
   ·simp only [g43, hs] at h
    exact absurd h kN10
   simp only [g43, hs] at h
   simp only [vz, mq, mqm, tyf, mqt, b33, (ix41 o27), e36, e37, e38, e39, e40, e41, d42, g43, nm, seval]
   refine k_app (w := 2) (enc := cGSightPlace) (xs := c10_8) (ys := ([e10])) (el := el10_0) (el2 := (some 34)) (fun _ => rfl) lf41 ao41 Tryz.underlying41 (by first | rfl | assumption | (simp only [updH_apply, without_apply, et41, b33, nm, seval] <;> rfl) | (simp only [updH_apply, without_apply, cellsL_cons, cellsL_nil, mV_app, mV_app0, tyf, mqt, b33, (ix41 o27), e36, e37, e38, e39, e40, e41, d42, g43, nm, seval]; done)) (by first | rfl | assumption | (simp only [updH_apply, without_apply, et41, b33, nm, seval] <;> rfl) | (simp only [updH_apply, without_apply, cellsL_cons, cellsL_nil, mV_app, mV_app0, tyf, mqt, b33, (ix41 o27), e36, e37, e38, e39, e40, e41, d42, g43, nm, seval]; done)) (Nat.zero_lt_succ _) g43 ?_
   simp only [vz, mq, mqm, tyf, mqt, b33, (ix41 o27), e36, e37, e38, e39, e40, e41, d42, g43, nm, seval]
   exact ⟨List.length p10, Nat.lt_succ_self _, by rw [hI10]; refine ⟨p10, c10_9 + 1, (c10_8 ++ [e10]), .ref (nx10 + 17) 0 (List.length (c10_8 ++ [e10])) 2 (List.length (c10_8 ++ [e10])), rfl, Int.le_trans hi10 (Int.le_add_one (Int.le_refl _)), drop_next hi10 hp10, rfl, (show 10 ≤ nx10 + 22 by omega), ?_, ?_, e36, e37, e38, ?_, ?_, Or.inl ⟨nx10 + 17, (sameEl el10_0 34), rfl, (by first | omega | (simp only [nm, seval]; omega)), (by first | omega | (intro hh; simp only [b33, reduceCtorEq] at hh)), (by first | omega | (intro hh; simp only [b33, reduceCtorEq] at hh)), ?_⟩, h⟩ <;> first | (simp only [ua, encM_nil, b33, e36, e37, e38, e39, e40, e41, d42, nm, seval] <;> rfl) | rfl⟩
 ·cases p10 with
  | nil =>
   have d44 : (decide (c10_9 < (List.length r5 : Int))) = false := not_lt_of_drop hi10 hp10
   simp only [g_ref02_Both_l0, hs, reduceCtorEq] at h
   replace h := kG10 _ h
   try dsimp only at h
   try simp only [hs] at h
   try simp only [vz, mq, mqm, tyf, mqt, g11, n19, e14, e15, e16, e17, e18, H12, H13, d44, nm, seval]
   refine opd_ret (x := (.lit (.slice none 0 0))) (by first | (simp only [Tryz.results31, resV, resL, resV1, tgt_ptr, tgt_tp, uw, cr, tyf, mqt, g11, n19, H12, H13, d44, nm, seval] <;> rfl) | rfl) ?_
   obtain rfl := kF _ h
   refine rr_tree ?_ ?_
   ·simp only [tre, tytre, Bool.and_self]
   ·first | (simp only [outV, uw, showV_ref, cr, tyf, mqt, nrm, tynrm, g11, n19, e14, e15, e16, e17, e18, H12, H13, d44, nm, seval] <;> rfl) | rfl
  | cons e10 p10 =>
   have d45 : (decide (c10_9 < (List.length r5 : Int))) = true := lt_of_drop hi10 hp10
   have o47 := getI_of_drop hi10 hp10
   have w46 := wrap_next hi10 hp10 g11
   simp only [g_ref02_Both_l0, hs, reduceCtorEq] at h
   simp only [vz, mq, mqm, tyf, mqt, g11, n19, e14, e15, e16, e17, e18, H12, H13, d45, (ix41 o47), w46, nm, seval]
   refine cwp_drwQF (fun tm => tm 3 = .ptr 0 0 ∧ tm 5 = .ptr 2 0 ∧ tm 7 = .sl (cellsL cGSightPlace r5) (List.length r5) false ∧ tm 8 = .lit (.slice none 0 0) ∧ tm 9 = .lit (.int .i64 c10_9) ∧ True) (by refine ⟨e14, e15, e16, e17, e18, trivial⟩ <;> first | (simp only [ua, encM_nil, n19, e14, e15, e16, e17, e18, H12, H13, d45, w46, nm, seval] <;> rfl) | rfl) ?_
   rintro tm ⟨e48, e49, e50, e51, e52, _⟩
   rcases o54 : (g_ref02_Surely x0_s x2_other e10) with _ | r53
   ·simp only [o54, hs] at h
    exact absurd h kN10
   simp only [o54, hs] at h
   simp only [vz, mq, mqm, tyf, mqt, g11, n19, H12, H13, d45, (ix41 o47), w46, e48, e49, e50, e51, e52, nm, seval]
   refine dktree (args0 := [.agg (cGSightStreet x0_s), .agg (cGSightBoard x2_other), .agg (cGSightPlace e10)]) (by first | (simp only [nrm, tynrm] <;> rfl) | rfl) (by simp only [tre, tytre, Bool.and_self]) (g_ref02_Surely_ok _ _ _ _ o54) ?_
   refine fin_cut (fun tm => tm 3 = .ptr 0 0 ∧ tm 5 = .ptr 2 0 ∧ tm 7 = .sl (cellsL cGSightPlace r5) (List.length r5) false ∧ tm 8 = .lit (.slice none 0 0) ∧ tm 9 = .lit (.int .i64 c10_9) ∧ tm 25 = .lit (.bool r53) ∧ True) (by refine ⟨e48, e49, e50, e51, e52, ?_, trivial⟩ <;> first | (simp only [ua, encM_nil, n19, H12, H13, d45, w46, e48, e49, e50, e51, e52, nm, seval] <;> rfl) | rfl) ?_
   rintro tm ⟨e55, e56, e57, e58, e59, e60, _⟩
   cases d61 : (r53)
   ·simp only [d61, hs] at h
    have b62 := And.intro g11 (And.intro n19 (And.intro H12 (And.intro H13 (And.intro d45 (And.intro w46 d61)))))
    simp only [vz, mq, mqm, tyf, mqt, b62, (ix41 o47), e55, e56, e57, e58, e59, e60, nm, seval]
    exact ⟨List.length p10, Nat.lt_succ_self _, by rw [hI10]; refine ⟨p10, c10_9 + 1, ([] : List GSightPlace), .lit (.slice none 0 0), rfl, Int.le_trans hi10 (Int.le_add_one (Int.le_refl _)), drop_next hi10 hp10, rfl, (show 10 ≤ nx10 + 14 by omega), ?_, ?_, e55, e56, e57, ?_, ?_, Or.inr ⟨rfl, rfl⟩, h⟩ <;> first | (simp only [ua, encM_nil, b62, e55, e56, e57, e58, e59, e60, nm, seval] <;> rfl) | rfl⟩
   simp only [d61, hs] at h
   have b63 := And.intro g11 (And.intro n19 (And.intro H12 (And.intro H13 (And.intro d45 (And.intro w46 d61)))))
   cases g64 : (roomOk 16 (List.length (([] : List GSightPlace) ++ [e10])))
   ·simp only [g64, hs] at h
    exact absurd h kN10
   simp only [g64, hs] at h
   simp only [vz, mq, mqm, tyf, mqt, b63, (ix41 o47), e55, e56, e57, e58, e59, e60, g64, nm, seval]
   refine k_appN (w := 2) (enc := cGSightPlace) (ys := ([e10])) (el2 := (some 34)) (fun _ => rfl) lf41 ao41 Tryz.underlying41 (by first | rfl | assumption | (simp only [updH_apply, without_apply, et41, b63, nm, seval] <;> rfl) | (simp only [updH_apply, without_apply, cellsL_cons, cellsL_nil, mV_app, mV_app0, tyf, mqt, b63, (ix41 o47), e55, e56, e57, e58, e59, e60, g64, nm, seval]; done)) (Nat.zero_lt_succ _) g64 ?_
   simp only [vz, mq, mqm, tyf, mqt, b63, (ix41 o47), e55, e56, e57, e58, e59, e60, g64, nm, seval]
   exact ⟨List.length p10, Nat.lt_succ_self _, by rw [hI10]; refine ⟨p10, c10_9 + 1, (([] : List GSightPlace) ++ [e10]), .ref (nx10 + 17) 0 (List.length (([] : List GSightPlace) ++ [e10])) 2 (List.length (([] : List GSightPlace) ++ [e10])), rfl, Int.le_trans hi10 (Int.le_add_one (Int.le_refl _)), drop_next hi10 hp10, rfl, (show 10 ≤ nx10 + 22 by omega), ?_, ?_, e55, e56, e57, ?_, ?_, Or.inl ⟨nx10 + 17, (some 34), rfl, (by first | omega | (simp only [nm, seval]; omega)), (by first | omega | (intro hh; simp only [b63, reduceCtorEq] at hh)), (by first | omega | (intro hh; simp only [b63, reduceCtorEq] at hh)), ?_⟩, h⟩ <;> first | (simp only [ua, encM_nil, b63, e55, e56, e57, e58, e59, e60, nm, seval] <;> rfl) | rfl⟩
end Go.V
end
section
namespace Go.V
open Go
section
variable {s : GSightStreet} {b b' : GSightBoard}
theorem rbt_l0 : ∀ (L : List GSightPlace) (c : Int) (acc : List GSightPlace), (∀ p ∈ L, Good s b' p) → acc.length + L.length ≤ 1000 → g_ref02_Both_l0 s b' L c acc = some (.go (acc ++ L.filter (sureB s b')))
 | [], c, acc, h, h1 => by simp [g_ref02_Both_l0]
 | p :: L, c, acc, h, h1 => by
  have ih := fun acc' => rbt_l0 L (c + 1) acc' (fun p hp => h p (List.mem_cons_of_mem _ hp))
  simp only [List.length_cons] at h1
  have hr : roomOk 16 (acc ++ [p]).length = true := room_small _ (by simp; omega) (by omega)
  simp only [g_ref02_Both_l0, refSurely_eq (fair_good (h p (List.mem_cons_self ..))), Option.bind_some, List.filter_cons, hr, cond_true]
  cases sureB s b' p with
  | true => simp only [cond_true, if_true]; rw [ih _ (by simp; omega), List.append_assoc]; rfl
  | false => simp only [cond_false, Bool.false_eq_true, if_false]; rw [ih _ (by omega)]
theorem refBoth_eq (hl : 1 ≤ s.Length ∧ s.Length ≤ 40) (hw : 1 ≤ s.Width ∧ s.Width ≤ 12) (hg : ∀ p ∈ allP s, Good s b p) (hg' : ∀ p ∈ allP s, Good s b' p) : g_ref02_Both s b b' = some ((allP s).filter (bothB s b b')) := by
 have hn : (allP s).length ≤ 500 := by have := gridP_len (show s.Width.toNat ≤ 12 by omega) (s.Length + 1).toNat 0; unfold allP; omega
 have hf := List.length_filter_le (sureB s b) (allP s)
 simp only [g_ref02_Both, (From_eq hl hw hg).1, Option.bind_some, lenOk_of (show ((allP s).filter (sureB s b)).length < 9223372036854775808 by omega), cond_true]
 rw [rbt_l0 _ 0 [] (fun p hp => hg' p (List.mem_filter.1 hp).1) (by simp; omega), lbind_go, List.nil_append, List.filter_filter]
 rfl
end
end Go.V
end
section
namespace Go.V
open Go Go.Proofs
def g_law02_SightBoths (x0_s : GSightStreet) (x1_a1 : Int) (x2_a2 : Int) : Option (Bool) := Option.bind (g_law02_short x0_s) (fun r1 => cond (r1) (Option.bind (g_sight_Both x0_s x1_a1 x2_a2) (fun r2 => Option.bind (g_ref02_Street x0_s) (fun r3 => cond (r3) (Option.bind (g_ref02_Board x0_s x1_a1) (fun r4 => cond (r4) (Option.bind (g_ref02_Board x0_s x2_a2) (fun r5 => cond (r5) (cond (x1_a1 == x2_a2) (cond (r2.2.2 == 2) (cond (r2.2.1 == 0) (cond (r2.1.Along == 0 && (r2.1.Across == 0)) (some true) (some false)) (some false)) (some false)) (Option.bind (getI x0_s.Boards x1_a1) (fun x6 => Option.bind (getI x0_s.Boards x2_a2) (fun x7 => Option.bind (g_ref02_Both x0_s x6 x7) (fun r8 => cond ((List.length r8 : Int) == 0) (cond (r2.2.2 == 5) (cond (r2.2.1 == 0) (cond (r2.1.Along == 0 && (r2.1.Across == 0)) (some true) (some false)) (some false)) (some false)) (cond (r2.2.2 == 0) (cond (r2.2.1 == (List.length r8 : Int)) (Option.bind (getI r8 0) (fun x9 => cond (r2.1.Along == x9.Along && (r2.1.Across == x9.Across)) (some true) (some false))) (some false)) (some false))))))) (cond (r2.2.2 == 2) (cond (r2.2.1 == 0) (cond (r2.1.Along == 0 && (r2.1.Across == 0)) (some true) (some false)) (some false)) (some false)))) (cond (r2.2.2 == 2) (cond (r2.2.1 == 0) (cond (r2.1.Along == 0 && (r2.1.Across == 0)) (some true) (some false)) (some false)) (some false)))) (cond (r2.2.2 == 2) (cond (r2.2.1 == 0) (cond (r2.1.Along == 0 && (r2.1.Across == 0)) (some true) (some false)) (some false)) (some false))))) (some true))
theorem g_law02_SightBoths_ok (x0_s : GSightStreet) (x1_a1 : Int) (x2_a2 : Int) (R : Bool) (h : g_law02_SightBoths x0_s x1_a1 x2_a2 = some R) : VPure Tryz.prog G0 5 [.agg (cGSightStreet x0_s), .lit (.int .i64 x1_a1), .lit (.int .i64 x2_a2)] (.tree (.lit (.bool R))) := by
 refine VPure.runR mixed Tryz.call5 Tryz.func5 rfl (by simp [Tryz.ntmps5]; kernel_rfl) ?_
 obtain ⟨KF, h, kF, kN⟩ := fun_intro h
 simp only [g_law02_SightBoths] at h
 rcases o11 : (g_law02_short x0_s) with _ | r10
 ·simp only [o11, hs] at h
  exact absurd h kN
 simp only [o11, hs] at h
 simp only [vz, mq, mqm, tyf, mqt, nm, seval]
 refine ktree (args0 := [.agg (cGSightStreet x0_s)]) (by first | (simp only [nrm, tynrm] <;> rfl) | rfl) (by simp only [tre, tytre, Bool.and_self]) (g_law02_short_ok _ _ o11) ?_
 refine fin_cut (fun tm => tm 1 = .lit (.int .i64 x1_a1) ∧ tm 2 = .lit (.int .i64 x2_a2) ∧ tm 3 = .ptr 0 0 ∧ tm 12 = .lit (.bool r10) ∧ True) (by refine ⟨?_, ?_, ?_, ?_, trivial⟩ <;> first | (simp only [ua, encM_nil, nm, seval] <;> rfl) | rfl) ?_
 rintro tm ⟨e12, e13, e14, e15, _⟩
 cases d16 : (r10)
 ·simp only [d16, hs] at h
  simp only [vz, mq, mqm, tyf, mqt, e12, e13, e14, e15, d16, nm, seval]
  refine ktree0 g_law02_known_ok ?_
  try simp only [vz, mq, mqm, tyf, mqt, e12, e13, e14, e15, d16, nm, seval]
  obtain rfl := kF _ h
  exact opd_bool Tryz.results5 rfl
 simp only [d16, hs] at h
 rcases o18 : (g_sight_Both x0_s x1_a1 x2_a2) with _ | r17
 ·simp only [o18, hs] at h
  exact absurd h kN
 simp only [o18, hs] at h
 simp only [vz, mq, mqm, tyf, mqt, e12, e13, e14, e15, d16, nm, seval]
 refine ktree (args0 := [.agg (cGSightStreet x0_s), .lit (.int .i64 x1_a1), .lit (.int .i64 x2_a2)]) (by first | (simp only [nrm, tynrm] <;> rfl) | rfl) (by simp only [tre, tytre, Bool.and_self]) (g_sight_Both_ok _ _ _ _ o18) ?_
 refine fin_cut (fun tm => tm 1 = .lit (.int .i64 x1_a1) ∧ tm 2 = .lit (.int .i64 x2_a2) ∧ tm 3 = .ptr 0 0 ∧ tm 19 = .tup [.agg (cGSightPlace r17.1), .lit (.int .i64 r17.2.1), .lit (.int .i64 r17.2.2)] ∧ True) (by refine ⟨e12, e13, e14, ?_, trivial⟩ <;> first | (simp only [ua, encM_nil, e12, e13, e14, e15, d16, nm, seval] <;> rfl) | rfl) ?_
 rintro tm ⟨e19, e20, e21, e22, _⟩
 rcases o24 : (g_ref02_Street x0_s) with _ | r23
 ·simp only [o24, hs] at h
  exact absurd h kN
 simp only [o24, hs] at h
 simp only [vz, mq, mqm, tyf, mqt, d16, e19, e20, e21, e22, nm, seval]
 refine ktree (args0 := [.agg (cGSightStreet x0_s)]) (by first | (simp only [nrm, tynrm] <;> rfl) | rfl) (by simp only [tre, tytre, Bool.and_self]) (g_ref02_Street_ok _ _ o24) ?_
 refine fin_cut (fun tm => tm 1 = .lit (.int .i64 x1_a1) ∧ tm 2 = .lit (.int .i64 x2_a2) ∧ tm 3 = .ptr 0 0 ∧ tm 7 = .ptr 13 0 ∧ tm 8 = .lit (.int .i64 r17.2.1) ∧ tm 9 = .lit (.int .i64 r17.2.2) ∧ tm 24 = .lit (.bool r23) ∧ True) (by refine ⟨e19, e20, e21, ?_, ?_, ?_, ?_, trivial⟩ <;> first | (simp only [ua, encM_nil, d16, e19, e20, e21, e22, nm, seval] <;> rfl) | rfl) ?_
 rintro tm ⟨e25, e26, e27, e28, e29, e30, e31, _⟩
 cases d32 : (r23)
 ·simp only [d32, hs] at h
  cases d33 : (r17.2.2 == 2)
  ·simp only [d33, hs] at h
   try simp only [vz, mq, mqm, tyf, mqt, d16, e25, e26, e27, e28, e29, e30, e31, d32, d33, nm, seval]
   obtain rfl := kF _ h
   exact opd_bool Tryz.results5 rfl
  simp only [d33, hs] at h
  cases d34 : (r17.2.1 == 0)
  ·simp only [d34, hs] at h
   try simp only [vz, mq, mqm, tyf, mqt, d16, e25, e26, e27, e28, e29, e30, e31, d32, d33, d34, nm, seval]
   obtain rfl := kF _ h
   exact opd_bool Tryz.results5 rfl
  simp only [d34, hs] at h
  cases d35 : (r17.1.Along == 0 && (r17.1.Across == 0))
  ·simp only [d35, hs] at h
   try simp only [vz, mq, mqm, tyf, mqt, d16, e25, e26, e27, e28, e29, e30, e31, d32, d33, d34, d35, nm, seval]
   obtain rfl := kF _ h
   exact opd_bool Tryz.results5 rfl
  simp only [d35, hs] at h
  simp only [vz, mq, mqm, tyf, mqt, d16, e25, e26, e27, e28, e29, e30, e31, d32, d33, d34, d35, nm, seval]
  refine ktree0 g_law02_known_ok ?_
  try simp only [vz, mq, mqm, tyf, mqt, d16, e25, e26, e27, e28, e29, e30, e31, d32, d33, d34, d35, nm, seval]
  obtain rfl := kF _ h
  exact opd_bool Tryz.results5 rfl
 simp only [d32, hs] at h
 rcases o37 : (g_ref02_Board x0_s x1_a1) with _ | r36
 ·simp only [o37, hs] at h
  exact absurd h kN
 simp only [o37, hs] at h
 simp only [vz, mq, mqm, tyf, mqt, d16, e25, e26, e27, e28, e29, e30, e31, d32, nm, seval]
 refine ktree (args0 := [.agg (cGSightStreet x0_s), .lit (.int .i64 x1_a1)]) (by first | (simp only [nrm, tynrm] <;> rfl) | rfl) (by simp only [tre, tytre, Bool.and_self]) (g_ref02_Board_ok _ _ _ o37) ?_
 refine fin_cut (fun tm => tm 1 = .lit (.int .i64 x1_a1) ∧ tm 2 = .lit (.int .i64 x2_a2) ∧ tm 3 = .ptr 0 0 ∧ tm 7 = .ptr 13 0 ∧ tm 8 = .lit (.int .i64 r17.2.1) ∧ tm 9 = .lit (.int .i64 r17.2.2) ∧ tm 26 = .lit (.bool false) ∧ tm 29 = .lit (.bool r36) ∧ True) (by refine ⟨e25, e26, e27, e28, e29, e30, ?_, ?_, trivial⟩ <;> first | (simp only [ua, encM_nil, d16, e25, e26, e27, e28, e29, e30, e31, d32, nm, seval] <;> rfl) | rfl) ?_
 rintro tm ⟨e38, e39, e40, e41, e42, e43, e44, e45, _⟩
 cases d46 : (r36)
 ·simp only [d46, hs] at h
  cases d47 : (r17.2.2 == 2)
  ·simp only [d47, hs] at h
   try simp only [vz, mq, mqm, tyf, mqt, d16, d32, e38, e39, e40, e41, e42, e43, e44, e45, d46, d47, nm, seval]
   obtain rfl := kF _ h
   exact opd_bool Tryz.results5 rfl
  simp only [d47, hs] at h
  cases d48 : (r17.2.1 == 0)
  ·simp only [d48, hs] at h
   try simp only [vz, mq, mqm, tyf, mqt, d16, d32, e38, e39, e40, e41, e42, e43, e44, e45, d46, d47, d48, nm, seval]
   obtain rfl := kF _ h
   exact opd_bool Tryz.results5 rfl
  simp only [d48, hs] at h
  cases d49 : (r17.1.Along == 0 && (r17.1.Across == 0))
  ·simp only [d49, hs] at h
   try simp only [vz, mq, mqm, tyf, mqt, d16, d32, e38, e39, e40, e41, e42, e43, e44, e45, d46, d47, d48, d49, nm, seval]
   obtain rfl := kF _ h
   exact opd_bool Tryz.results5 rfl
  simp only [d49, hs] at h
  simp only [vz, mq, mqm, tyf, mqt, d16, d32, e38, e39, e40, e41, e42, e43, e44, e45, d46, d47, d48, d49, nm, seval]
  refine ktree0 g_law02_known_ok ?_
  try simp only [vz, mq, mqm, tyf, mqt, d16, d32, e38, e39, e40, e41, e42, e43, e44, e45, d46, d47, d48, d49, nm, seval]
  obtain rfl := kF _ h
  exact opd_bool Tryz.results5 rfl
 simp only [d46, hs] at h
 rcases o51 : (g_ref02_Board x0_s x2_a2) with _ | r50
 ·simp only [o51, hs] at h
  exact absurd h kN
 simp only [o51, hs] at h
 simp only [vz, mq, mqm, tyf, mqt, d16, d32, e38, e39, e40, e41, e42, e43, e44, e45, d46, nm, seval]
 refine ktree (args0 := [.agg (cGSightStreet x0_s), .lit (.int .i64 x2_a2)]) (by first | (simp only [nrm, tynrm] <;> rfl) | rfl) (by simp only [tre, tytre, Bool.and_self]) (g_ref02_Board_ok _ _ _ o51) ?_
 refine fin_cut (fun tm => tm 1 = .lit (.int .i64 x1_a1) ∧ tm 2 = .lit (.int .i64 x2_a2) ∧ tm 3 = .ptr 0 0 ∧ tm 7 = .ptr 13 0 ∧ tm 8 = .lit (.int .i64 r17.2.1) ∧ tm 9 = .lit (.int .i64 r17.2.2) ∧ tm 32 = .lit (.bool false) ∧ tm 35 = .lit (.bool r50) ∧ True) (by refine ⟨e38, e39, e40, e41, e42, e43, ?_, ?_, trivial⟩ <;> first | (simp only [ua, encM_nil, d16, d32, e38, e39, e40, e41, e42, e43, e44, e45, d46, nm, seval] <;> rfl) | rfl) ?_
 rintro tm ⟨e52, e53, e54, e55, e56, e57, e58, e59, _⟩
 cases d60 : (r50)
 ·simp only [d60, hs] at h
  cases d61 : (r17.2.2 == 2)
  ·simp only [d61, hs] at h
   try simp only [vz, mq, mqm, tyf, mqt, d16, d32, d46, e52, e53, e54, e55, e56, e57, e58, e59, d60, d61, nm, seval]
   obtain rfl := kF _ h
   exact opd_bool Tryz.results5 rfl
  simp only [d61, hs] at h
  cases d62 : (r17.2.1 == 0)
  ·simp only [d62, hs] at h
   try simp only [vz, mq, mqm, tyf, mqt, d16, d32, d46, e52, e53, e54, e55, e56, e57, e58, e59, d60, d61, d62, nm, seval]
   obtain rfl := kF _ h
   exact opd_bool Tryz.results5 rfl
  simp only [d62, hs] at h
  cases d63 : (r17.1.Along == 0 && (r17.1.Across == 0))
  ·simp only [d63, hs] at h
   have b64 := And.intro d16 (And.intro d32 (And.intro d46 (And.intro d60 (And.intro d61 (And.intro d62 d63)))))
   try simp only [vz, mq, mqm, tyf, mqt, b64, e52, e53, e54, e55, e56, e57, e58, e59, nm, seval]
   obtain rfl := kF _ h
   exact opd_bool Tryz.results5 rfl
  simp only [d63, hs] at h
  have b65 := And.intro d16 (And.intro d32 (And.intro d46 (And.intro d60 (And.intro d61 (And.intro d62 d63)))))
  simp only [vz, mq, mqm, tyf, mqt, b65, e52, e53, e54, e55, e56, e57, e58, e59, nm, seval]
  refine ktree0 g_law02_known_ok ?_
  try simp only [vz, mq, mqm, tyf, mqt, b65, e52, e53, e54, e55, e56, e57, e58, e59, nm, seval]
  obtain rfl := kF _ h
  exact opd_bool Tryz.results5 rfl
 simp only [d60, hs] at h
 cases d66 : (x1_a1 == x2_a2)
 ·simp only [d66, hs] at h
  simp only [vz, mq, mqm, tyf, mqt, d16, d32, d46, e52, e53, e54, e55, e56, e57, e58, e59, d60, d66, nm, seval]
  refine cwp_drwQF (fun tm => tm 1 = .lit (.int .i64 x1_a1) ∧ tm 2 = .lit (.int .i64 x2_a2) ∧ tm 3 = .ptr 0 0 ∧ tm 7 = .ptr 13 0 ∧ tm 8 = .lit (.int .i64 r17.2.1) ∧ tm 9 = .lit (.int .i64 r17.2.2) ∧ True) (by refine ⟨e52, e53, e54, e55, e56, e57, trivial⟩ <;> first | (simp only [ua, encM_nil, d16, d32, d46, e52, e53, e54, e55, e56, e57, e58, e59, d60, d66, nm, seval] <;> rfl) | rfl) ?_
  rintro tm ⟨e67, e68, e69, e70, e71, e72, _⟩
  rcases o74 : (getI x0_s.Boards x1_a1) with _ | x73
  ·simp only [o74, hs] at h
   exact absurd h kN
  simp only [o74, hs] at h
  rcases o76 : (getI x0_s.Boards x2_a2) with _ | x75
  ·simp only [o76, hs] at h
   exact absurd h kN
  simp only [o76, hs] at h
  rcases o78 : (g_ref02_Both x0_s x73 x75) with _ | r77
  ·simp only [o78, hs] at h
   exact absurd h kN
  simp only [o78, hs] at h
  simp only [vz, mq, mqm, tyf, mqt, d16, d32, d46, d60, d66, e67, e68, e69, e70, e71, e72, (ix24 o74), (ix24 o76), nm, seval]
  refine dktree (args0 := [.agg (cGSightStreet x0_s), .agg (cGSightBoard x73), .agg (cGSightBoard x75)]) (by first | (simp only [nrm, tynrm] <;> rfl) | rfl) (by simp only [tre, tytre, Bool.and_self]) (g_ref02_Both_ok _ _ _ _ o78) ?_
  refine fin_cut (fun tm => tm 7 = .ptr 13 0 ∧ tm 8 = .lit (.int .i64 r17.2.1) ∧ tm 9 = .lit (.int .i64 r17.2.2) ∧ tm 68 = .sl (cellsL cGSightPlace r77) (List.length r77) false ∧ True) (by refine ⟨e70, e71, e72, ?_, trivial⟩ <;> first | (simp only [ua, encM_nil, d16, d32, d46, d60, d66, e67, e68, e69, e70, e71, e72, nm, seval] <;> rfl) | rfl) ?_
  rintro tm ⟨e79, e80, e81, e82, _⟩
  cases d83 : ((List.length r77 : Int) == 0)
  ·simp only [d83, hs] at h
   simp only [vz, mq, mqm, tyf, mqt, d16, d32, d46, d60, d66, (ix24 o74), (ix24 o76), e79, e80, e81, e82, d83, nm, seval]
   refine cwp_drwQF (fun tm => tm 7 = .ptr 13 0 ∧ tm 8 = .lit (.int .i64 r17.2.1) ∧ tm 9 = .lit (.int .i64 r17.2.2) ∧ tm 10 = .sl (cellsL cGSightPlace r77) (List.length r77) false ∧ True) (by refine ⟨e79, e80, e81, ?_, trivial⟩ <;> first | (simp only [ua, encM_nil, d16, d32, d46, d60, d66, e79, e80, e81, e82, d83, nm, seval] <;> rfl) | rfl) ?_
   rintro tm ⟨e84, e85, e86, e87, _⟩
   cases d88 : (r17.2.2 == 0)
   ·simp only [d88, hs] at h
    have b89 := And.intro d16 (And.intro d32 (And.intro d46 (And.intro d60 (And.intro d66 (And.intro d83 d88)))))
    try simp only [vz, mq, mqm, tyf, mqt, b89, (ix24 o74), (ix24 o76), e84, e85, e86, e87, nm, seval]
    obtain rfl := kF _ h
    exact opd_bool Tryz.results5 rfl
   simp only [d88, hs] at h
   have b90 := And.intro d16 (And.intro d32 (And.intro d46 (And.intro d60 (And.intro d66 (And.intro d83 d88)))))
   cases d91 : (r17.2.1 == (List.length r77 : Int))
   ·simp only [d91, hs] at h
    try simp only [vz, mq, mqm, tyf, mqt, b90, (ix24 o74), (ix24 o76), e84, e85, e86, e87, d91, nm, seval]
    obtain rfl := kF _ h
    exact opd_bool Tryz.results5 rfl
   simp only [d91, hs] at h
   rcases o93 : (getI r77 0) with _ | x92
   ·simp only [o93, hs] at h
    exact absurd h kN
   simp only [o93, hs] at h
   cases d94 : (r17.1.Along == x92.Along && (r17.1.Across == x92.Across))
   ·simp only [d94, hs] at h
    try simp only [vz, mq, mqm, tyf, mqt, b90, (ix24 o74), (ix24 o76), e84, e85, e86, e87, d91, (ix41 o93), d94, nm, seval]
    obtain rfl := kF _ h
    exact opd_bool Tryz.results5 rfl
   simp only [d94, hs] at h
   simp only [vz, mq, mqm, tyf, mqt, b90, (ix24 o74), (ix24 o76), e84, e85, e86, e87, d91, (ix41 o93), d94, nm, seval]
   refine dktree0 g_law02_known_ok ?_
   try simp only [vz, mq, mqm, tyf, mqt, b90, (ix24 o74), (ix24 o76), e84, e85, e86, e87, d91, (ix41 o93), d94, nm, seval]
   obtain rfl := kF _ h
   exact opd_bool Tryz.results5 rfl
  simp only [d83, hs] at h
  cases d95 : (r17.2.2 == 5)
  ·simp only [d95, hs] at h
   have b96 := And.intro d16 (And.intro d32 (And.intro d46 (And.intro d60 (And.intro d66 (And.intro d83 d95)))))
   try simp only [vz, mq, mqm, tyf, mqt, b96, (ix24 o74), (ix24 o76), e79, e80, e81, e82, nm, seval]
   obtain rfl := kF _ h
   exact opd_bool Tryz.results5 rfl
  simp only [d95, hs] at h
  have b97 := And.intro d16 (And.intro d32 (And.intro d46 (And.intro d60 (And.intro d66 (And.intro d83 d95)))))
  cases d98 : (r17.2.1 == 0)
  ·simp only [d98, hs] at h
   try simp only [vz, mq, mqm, tyf, mqt, b97, (ix24 o74), (ix24 o76), e79, e80, e81, e82, d98, nm, seval]
   obtain rfl := kF _ h
   exact opd_bool Tryz.results5 rfl
  simp only [d98, hs] at h
  cases d99 : (r17.1.Along == 0 && (r17.1.Across == 0))
  ·simp only [d99, hs] at h
   try simp only [vz, mq, mqm, tyf, mqt, b97, (ix24 o74), (ix24 o76), e79, e80, e81, e82, d98, d99, nm, seval]
   obtain rfl := kF _ h
   exact opd_bool Tryz.results5 rfl
  simp only [d99, hs] at h
  simp only [vz, mq, mqm, tyf, mqt, b97, (ix24 o74), (ix24 o76), e79, e80, e81, e82, d98, d99, nm, seval]
  refine ktree0 g_law02_known_ok ?_
  try simp only [vz, mq, mqm, tyf, mqt, b97, (ix24 o74), (ix24 o76), e79, e80, e81, e82, d98, d99, nm, seval]
  obtain rfl := kF _ h
  exact opd_bool Tryz.results5 rfl
 simp only [d66, hs] at h
 cases d100 : (r17.2.2 == 2)
 ·simp only [d100, hs] at h
  try simp only [vz, mq, mqm, tyf, mqt, d16, d32, d46, e52, e53, e54, e55, e56, e57, e58, e59, d60, d66, d100, nm, seval]
  obtain rfl := kF _ h
  exact opd_bool Tryz.results5 rfl
 simp only [d100, hs] at h
 cases d101 : (r17.2.1 == 0)
 ·simp only [d101, hs] at h
  have b102 := And.intro d16 (And.intro d32 (And.intro d46 (And.intro d60 (And.intro d66 (And.intro d100 d101)))))
  try simp only [vz, mq, mqm, tyf, mqt, b102, e52, e53, e54, e55, e56, e57, e58, e59, nm, seval]
  obtain rfl := kF _ h
  exact opd_bool Tryz.results5 rfl
 simp only [d101, hs] at h
 have b103 := And.intro d16 (And.intro d32 (And.intro d46 (And.intro d60 (And.intro d66 (And.intro d100 d101)))))
 cases d104 : (r17.1.Along == 0 && (r17.1.Across == 0))
 ·simp only [d104, hs] at h
  try simp only [vz, mq, mqm, tyf, mqt, b103, e52, e53, e54, e55, e56, e57, e58, e59, d104, nm, seval]
  obtain rfl := kF _ h
  exact opd_bool Tryz.results5 rfl
 simp only [d104, hs] at h
 simp only [vz, mq, mqm, tyf, mqt, b103, e52, e53, e54, e55, e56, e57, e58, e59, d104, nm, seval]
 refine ktree0 g_law02_known_ok ?_
 try simp only [vz, mq, mqm, tyf, mqt, b103, e52, e53, e54, e55, e56, e57, e58, e59, d104, nm, seval]
 obtain rfl := kF _ h
 exact opd_bool Tryz.results5 rfl
end Go.V
end
section
namespace Go.V
open Go
theorem SightBoths_true (s : GSightStreet) (n n' : Int) (h : FineS s) : g_law02_SightBoths s n n' = some true := by
 obtain ⟨bs, hb⟩ := short_some s h
 cases h1 : streetB s with
 | false =>
  simp only [g_law02_SightBoths, hb, Option.bind_some, refStreet_eq s h, g_sight_Both, isStreet_eq s h, h1, cond_false]
  cases bs <;> rfl
 | true =>
  cases h2 : numB s n with
  | false =>
   have h2' := h2
   simp only [numB] at h2'
   simp only [g_law02_SightBoths, hb, Option.bind_some, refStreet_eq s h, refBoard_eq, g_sight_Both, isStreet_eq s h, isBoard_eq, h1, h2', cond_false, cond_true]
   cases bs <;> rfl
  | true =>
   have h2' := h2
   simp only [numB] at h2'
   cases h3 : numB s n' with
   | false =>
    have h3' := h3
    simp only [numB] at h3'
    simp only [g_law02_SightBoths, hb, Option.bind_some, refStreet_eq s h, refBoard_eq, g_sight_Both, isStreet_eq s h, isBoard_eq, h1, h2', h3', cond_false, cond_true]
    cases bs <;> rfl
   | true =>
    have h3' := h3
    simp only [numB] at h3'
    cases hne : (n == n') with
    | true =>
     simp only [g_law02_SightBoths, hb, Option.bind_some, refStreet_eq s h, refBoard_eq, g_sight_Both, isStreet_eq s h, isBoard_eq, h1, h2', h3', hne, cond_false, cond_true]
     cases bs <;> rfl
    | false =>
     obtain ⟨b, b1, hl, hw, hg⟩ := all_good h1 h2
     obtain ⟨b', b1', _, _, hg'⟩ := all_good h1 h3
     simp only [g_law02_SightBoths, hb, Option.bind_some, refStreet_eq s h, refBoard_eq, h1, h2', h3', hne, cond_false, cond_true, b1, b1', refBoth_eq hl hw hg hg', Both_eq h h1 h2 h3 b1 b1' hl hw hg hg' hne]
     cases bs with
     | false => rfl
     | true =>
      cases (allP s).filter (bothB s b b') with
      | nil => rfl
      | cons x t =>
       have hx : (((x :: t).length : Int) == 0) = false := by simp only [List.length_cons]; exact beq_false_of_ne (by omega)
       have h0 : getI (x :: t) 0 = some x := rfl
       simp only [hx, h0, cond_false, cond_true, Option.bind_some, beq_self_eq_true, Bool.and_self]
end Go.V
end
