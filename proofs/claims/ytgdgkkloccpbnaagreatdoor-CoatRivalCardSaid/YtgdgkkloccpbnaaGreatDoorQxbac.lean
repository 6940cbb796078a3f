/- Part of a proof: a logic of values by content, lifted functions, what follows. -/
import Derived.Test.YtgdgkkloccpbnaaGreatDoorQbc
import Derived.Test.YtgdgkkloccpbnaaGreatDoorQbe
import Derived.Test.YtgdgkkloccpbnaaGreatDoorQbh
import Derived.Test.YtgdgkkloccpbnaaGreatDoorQbi
import Derived.Test.YtgdgkkloccpbnaaGreatDoorQbk
import Derived.Test.YtgdgkkloccpbnaaGreatDoorQbf
import Derived.Test.YtgdgkkloccpbnaaGreatDoorQbl
import Derived.Test.YtgdgkkloccpbnaaGreatDoorQbj
set_option linter.all false
set_option maxRecDepth 4000
set_option maxHeartbeats 40000000
section
set_option maxRecDepth 100000
namespace Go.V
open Go Go.Proofs
def Ok_GCoatSheet (x : GCoatSheet) : Prop := lenOk x.Dry = true ∧ lenOk x.Work = true ∧ lenOk x.Coats = true
section
variable {P : Program} (hu3 : P.underlying 3 = some (.int .i64)) {f56 : Array Field} (hu56 : P.underlying 56 = some (.struct f56)) (ht56 : f56.toList.map Field.type = [3, 3]) (hu22 : P.underlying 22 = some (.slice 56)) (hu23 : P.underlying 23 = some (.slice 3)) {f59 : Array Field} (hu59 : P.underlying 59 = some (.struct f59)) (ht59 : f59.toList.map Field.type = [3, 3]) (hu24 : P.underlying 24 = some (.slice 59)) {f26 : Array Field} (hu26 : P.underlying 26 = some (.struct f26)) (ht26 : f26.toList.map Field.type = [22, 23, 24])
include hu3 hu56 ht56 hu22 hu23 hu59 ht59 hu24 hu26 ht26
theorem gd_3 {n : Nat} : Dec P (n + 1) 3 eI (fun _ => True) := dec_int hu3
theorem gd_56 {n : Nat} : Dec P (n + 2) 56 cGSpan (fun _ => True) := by
 intro xs h
 obtain ⟨yss, hf, rfl⟩ := dec_struct (n := n + 1) (ts := [3, 3]) hu56 ht56 h
 match yss, hf with
 | [y0, y1], ⟨h0, h1, _⟩ =>
  obtain ⟨x0, r0, e0⟩ := gd_3 hu3 hu56 ht56 hu22 hu23 hu59 ht59 hu24 hu26 ht26 (n := n + 0) _ h0
  obtain ⟨x1, r1, e1⟩ := gd_3 hu3 hu56 ht56 hu22 hu23 hu59 ht59 hu24 hu26 ht26 (n := n + 0) _ h1
  exact ⟨⟨x0, x1⟩, trivial, by simp only [List.flatten_cons, List.flatten_nil, List.append_nil, normL_append, e0, e1, eI, eU8, eB, eS, eSl, cGSpan_eq, List.cons_append, List.nil_append]⟩
theorem gd_22 {n : Nat} : Dec P (n + 3) 22 (eSl cGSpan) (fun l => lenOk l = true ∧ ∀ x ∈ l, True) := dec_slice hu22 (gd_56 hu3 hu56 ht56 hu22 hu23 hu59 ht59 hu24 hu26 ht26 (n := n))
theorem gd_23 {n : Nat} : Dec P (n + 2) 23 (eSl eI) (fun l => lenOk l = true ∧ ∀ x ∈ l, True) := dec_slice hu23 (gd_3 hu3 hu56 ht56 hu22 hu23 hu59 ht59 hu24 hu26 ht26 (n := n))
theorem gd_59 {n : Nat} : Dec P (n + 2) 59 cGCoatCoat (fun _ => True) := by
 intro xs h
 obtain ⟨yss, hf, rfl⟩ := dec_struct (n := n + 1) (ts := [3, 3]) hu59 ht59 h
 match yss, hf with
 | [y0, y1], ⟨h0, h1, _⟩ =>
  obtain ⟨x0, r0, e0⟩ := gd_3 hu3 hu56 ht56 hu22 hu23 hu59 ht59 hu24 hu26 ht26 (n := n + 0) _ h0
  obtain ⟨x1, r1, e1⟩ := gd_3 hu3 hu56 ht56 hu22 hu23 hu59 ht59 hu24 hu26 ht26 (n := n + 0) _ h1
  exact ⟨⟨x0, x1⟩, trivial, by simp only [List.flatten_cons, List.flatten_nil, List.append_nil, normL_append, e0, e1, eI, eU8, eB, eS, eSl, cGCoatCoat_eq, List.cons_append, List.nil_append]⟩
theorem gd_24 {n : Nat} : Dec P (n + 3) 24 (eSl cGCoatCoat) (fun l => lenOk l = true ∧ ∀ x ∈ l, True) := dec_slice hu24 (gd_59 hu3 hu56 ht56 hu22 hu23 hu59 ht59 hu24 hu26 ht26 (n := n))
theorem gd_26 {n : Nat} : Dec P (n + 4) 26 cGCoatSheet (Ok_GCoatSheet) := by
 intro xs h
 obtain ⟨yss, hf, rfl⟩ := dec_struct (n := n + 3) (ts := [22, 23, 24]) hu26 ht26 h
 match yss, hf with
 | [y0, y1, y2], ⟨h0, h1, h2, _⟩ =>
  obtain ⟨x0, r0, e0⟩ := gd_22 hu3 hu56 ht56 hu22 hu23 hu59 ht59 hu24 hu26 ht26 (n := n + 0) _ h0
  obtain ⟨x1, r1, e1⟩ := gd_23 hu3 hu56 ht56 hu22 hu23 hu59 ht59 hu24 hu26 ht26 (n := n + 1) _ h1
  obtain ⟨x2, r2, e2⟩ := gd_24 hu3 hu56 ht56 hu22 hu23 hu59 ht59 hu24 hu26 ht26 (n := n + 0) _ h2
  exact ⟨⟨x0, x1, x2⟩, ⟨r0.1, r1.1, r2.1⟩, by simp only [List.flatten_cons, List.flatten_nil, List.append_nil, normL_append, e0, e1, e2, eI, eU8, eB, eS, eSl, cGCoatSheet_eq, List.cons_append, List.nil_append]⟩
end
theorem dec_3 {n : Nat} : Dec Tryz.prog (n + 1) 3 eI (fun _ => True) := gd_3 Tryz.underlying3 Tryz.underlying56 (by kernel_rfl) Tryz.underlying22 Tryz.underlying23 Tryz.underlying59 (by kernel_rfl) Tryz.underlying24 Tryz.underlying26 (by kernel_rfl)
theorem dec_23 {n : Nat} : Dec Tryz.prog (n + 2) 23 (eSl eI) (fun l => lenOk l = true ∧ ∀ x ∈ l, True) := gd_23 Tryz.underlying3 Tryz.underlying56 (by kernel_rfl) Tryz.underlying22 Tryz.underlying23 Tryz.underlying59 (by kernel_rfl) Tryz.underlying24 Tryz.underlying26 (by kernel_rfl)
theorem dec_26 {n : Nat} : Dec Tryz.prog (n + 4) 26 cGCoatSheet (Ok_GCoatSheet) := gd_26 Tryz.underlying3 Tryz.underlying56 (by kernel_rfl) Tryz.underlying22 Tryz.underlying23 Tryz.underlying59 (by kernel_rfl) Tryz.underlying24 Tryz.underlying26 (by kernel_rfl)
end Go.V
end
section
namespace Go.V
open Go Go.Proofs
end Go.V
end
section
namespace Go.V
open Go Go.Proofs
end Go.V
end
section
namespace Go.V
open Go Go.Proofs
def g_ref01_Before_l0 (x1_b : List Int) : List Int → Int → Option (LOut (Bool) (Unit))
 | [], c0_5 => some (.go ())
 | e0 :: p0, c0_5 => cond (decide (c0_5 < (List.length x1_b : Int))) (Option.bind (getI x1_b c0_5) (fun x1 => cond (e0 != x1) (some (.ret (decide (e0 < x1)))) (g_ref01_Before_l0 x1_b p0 (c0_5 + 1)))) (some (.go ()))
def g_ref01_Before (x0_a : List Int) (x1_b : List Int) : Option (Bool) := cond (lenOk x0_a) (lbind (g_ref01_Before_l0 x1_b x0_a 0) (fun r3 => some r3) (fun c2 => some (decide ((List.length x0_a : Int) < (List.length x1_b : Int)))) (fun _ _ => none)) none
theorem g_ref01_Before_ok (x0_a : List Int) (x1_b : List Int) (R : Bool) (h : g_ref01_Before x0_a x1_b = some R) : VPure Tryz.prog G0 25 [.sl (cellsL eI x0_a) (List.length x0_a) false, .sl (cellsL eI x1_b) (List.length x1_b) false] (.tree (.lit (.bool R))) := by
 refine VPure.runR mixed Tryz.call25 Tryz.func25 rfl (by simp [Tryz.ntmps25]; kernel_rfl) ?_
 obtain ⟨KF, h, kF, kN⟩ := fun_intro h
 simp only [g_ref01_Before] at h
 cases g5 : (lenOk x0_a)
 ·simp only [g5, hs] at h
  exact absurd h kN
 simp only [g5, hs] at h
 simp only [vz, tyf, g5, nm, seval]
 obtain ⟨K4, h, kR4, kG4, kB4, kN4⟩ := lbind_intro h kN
 obtain ⟨f4, hf4, h⟩ := call2 h
 obtain ⟨I4, hI4⟩ : ∃ I : Nat → St → Prop, I = (fun m st => ∃ (p4 : List Int) (c4_5 : Int), m = List.length p4 ∧ 0 ≤ c4_5 ∧ List.drop (Int.toNat c4_5) x0_a = p4 ∧ st.df = [] ∧ 2 ≤ st.nx ∧ st.tm 0 = .sl (cellsL eI x0_a) (List.length x0_a) false ∧ st.tm 1 = .sl (cellsL eI x1_b) (List.length x1_b) false ∧ st.tm 5 = .lit (.int .i64 c4_5) ∧ K4 (f4 p4 c4_5)) := ⟨_, rfl⟩
 refine loopK mixed (by kernel_rfl) I4 (List.length x0_a) (by rw [hI4]; refine ⟨x0_a, 0, rfl, Int.le_refl _, rfl, rfl, (show 2 ≤ 2 by omega), ?_, ?_, ?_, h⟩ <;> first | (simp only [ua, nm, seval] <;> rfl) | rfl) ?_
 rintro m ⟨tm, H, nx4, df⟩ hinv
 rw [hI4] at hinv
 obtain ⟨p4, c4_5, rfl, hi4, hp4, hdf, hn4, e6, e7, e8, h⟩ := hinv
 simp only at hdf hn4 e6 e7 e8
 have n9 := base_ne0 (m := 2) (b := nx4) (by omega)
 subst hdf hf4
 cases p4 with
 | nil =>
  have d10 : (decide (c4_5 < (List.length x0_a : Int))) = false := not_lt_of_drop hi4 hp4
  simp only [g_ref01_Before_l0, hs, reduceCtorEq] at h
  replace h := kG4 _ h
  try dsimp only at h
  try simp only [hs] at h
  try simp only [vz, tyf, g5, n9, e6, e7, e8, d10, nm, seval]
  obtain rfl := kF _ h
  exact opd_bool Tryz.results25 rfl
 | cons e4 p4 =>
  have d11 : (decide (c4_5 < (List.length x0_a : Int))) = true := lt_of_drop hi4 hp4
  have o13 := getI_of_drop hi4 hp4
  have w12 := wrap_next hi4 hp4 g5
  simp only [g_ref01_Before_l0, hs, reduceCtorEq] at h
  cases d14 : (decide (c4_5 < (List.length x1_b : Int)))
  ·simp only [d14, hs] at h
   replace h := kG4 _ h
   try dsimp only at h
   try simp only [hs] at h
   try simp only [vz, tyf, g5, n9, e6, e7, e8, d11, (ix23 o13), w12, d14, nm, seval]
   obtain rfl := kF _ h
   exact opd_bool Tryz.results25 rfl
  simp only [d14, hs] at h
  simp only [vz, tyf, g5, n9, e6, e7, e8, d11, (ix23 o13), w12, d14, nm, seval]
  refine cwp_drwQF (fun tm => tm 0 = .sl (cellsL eI x0_a) (List.length x0_a) false ∧ tm 1 = .sl (cellsL eI x1_b) (List.length x1_b) false ∧ tm 5 = .lit (.int .i64 c4_5) ∧ True) (by refine ⟨e6, e7, e8, trivial⟩ <;> first | (simp only [ua, n9, e6, e7, e8, d11, w12, d14, nm, seval] <;> rfl) | rfl) ?_
  rintro tm ⟨e15, e16, e17, _⟩
  rcases o19 : (getI x1_b c4_5) with _ | x18
  ·simp only [o19, hs] at h
   exact absurd h kN4
  simp only [o19, hs] at h
  cases d20 : (e4 != x18)
  ·simp only [d20, hs] at h
   simp only [vz, tyf, g5, n9, d11, (ix23 o13), w12, d14, e15, e16, e17, (ix23 o19), d20, nm, seval]
   exact ⟨List.length p4, Nat.lt_succ_self _, by rw [hI4]; refine ⟨p4, c4_5 + 1, rfl, Int.le_trans hi4 (Int.le_add_one (Int.le_refl _)), drop_next hi4 hp4, rfl, (show 2 ≤ nx4 + 22 by omega), e15, e16, ?_, h⟩ <;> first | (simp only [ua, n9, d11, w12, d14, e15, e16, e17, d20, nm, seval] <;> rfl) | rfl⟩
  simp only [d20, hs] at h
  simp only [vz, tyf, g5, n9, d11, (ix23 o13), w12, d14, e15, e16, e17, (ix23 o19), d20, nm, seval]
  refine cwp_drwQF (fun tm => tm 0 = .sl (cellsL eI x0_a) (List.length x0_a) false ∧ tm 1 = .sl (cellsL eI x1_b) (List.length x1_b) false ∧ tm 5 = .lit (.int .i64 c4_5) ∧ True) (by refine ⟨e15, e16, e17, trivial⟩ <;> first | (simp only [ua, n9, d11, w12, d14, e15, e16, e17, d20, nm, seval] <;> rfl) | rfl) ?_
  rintro tm ⟨e21, e22, e23, _⟩
  try simp only [vz, tyf, g5, n9, d11, (ix23 o13), w12, d14, (ix23 o19), d20, e21, e22, e23, nm, seval]
  replace h := kR4 _ h
  try dsimp only at h
  obtain rfl := kF _ h
  exact opd_bool Tryz.results25 rfl
end Go.V
end
section
namespace Go.V
open Go
def ltL : List Int → List Int → Bool
 | a :: x, b :: y => cond (a != b) (decide (a < b)) (ltL x y)
 | _, _ => false
theorem before_l0 {b : List Int} : ∀ (p q : List Int) (c : Int), 0 ≤ c → b.drop c.toNat = q → p.length = q.length → ∃ r, g_ref01_Before_l0 b p c = some r ∧ ((r = .go () ∧ ltL p q = false) ∨ r = .ret (ltL p q))
 | [], [], _, _, _, _ => ⟨_, rfl, .inl ⟨rfl, rfl⟩⟩
 | _ :: _, [], _, _, _, h => by simp at h
 | [], _ :: _, _, _, _, h => by simp at h
 | e :: p, v :: q, c, h0, h, hl => by
  have hg := getI_of_drop h0 h
  have hlt := (getI_lt hg).2
  simp only [g_ref01_Before_l0, hg, Option.bind_some, decide_eq_true hlt, cond_true, ltL]
  cases hne : (e != v) with
  | true => exact ⟨_, rfl, .inr rfl⟩
  | false =>
   simp only [cond_false]
   exact before_l0 p q (c + 1) (by omega) (drop_next h0 h) (by simpa using hl)
theorem before_eq {a b : List Int} (ha : lenOk a = true) (h : a.length = b.length) : g_ref01_Before a b = some (ltL a b) := by
 unfold g_ref01_Before
 obtain ⟨r, hr, h2⟩ := before_l0 a b 0 (Int.le_refl _) rfl h
 rw [ha, hr]
 rcases h2 with ⟨rfl, h3⟩ | rfl
 ·simp [lbind, h, h3]
 ·simp [lbind]
structure FP (cs : List GCoatCoat) (p : List Int) (pre : List Int) (rest : List GSpan) (r : List Int) : Prop where
 i : inW rest r = true
 f : sureB ((pre ++ r).map ptS) cs p = false
 m : ∀ w, inW rest w = true → sureB ((pre ++ w).map ptS) cs p = false → ltL w r = false
section
variable {cs : List GCoatCoat} {p : List Int} {wk : List Int} {n : Nat} (hn : n ≤ 12) (hc : 1 ≤ cs.length ∧ cs.length ≤ 5) (hl : p.length = cs.length) (hu : upB p = true) (hr : ∀ x ∈ p, 0 ≤ x ∧ x ≤ (n : Int) - 1)
include hn hc hl hu hr
end
end Go.V
end
section
namespace Go.V
open Go Go.Proofs
def g_law03_surely (x0_s : GCoatSheet) (x1_plan : List Int) : Option (Bool × Bool) := Option.bind (g_coat_Word x0_s x1_plan) (fun r1 => cond (r1.2 == 0) (cond (decide (r1.1 ≥ 1)) (some (r1.1 == 3, decide (r1.1 ≤ 3))) (some (r1.1 == 3, false))) (some (false, false)))
theorem g_law03_surely_ok (x0_s : GCoatSheet) (x1_plan : List Int) (R : Bool × Bool) (h : g_law03_surely x0_s x1_plan = some R) : VPure Tryz.prog G0 23 [.agg (cGCoatSheet x0_s), .sl (cellsL eI x1_plan) (List.length x1_plan) false] (.tree (.tup [.lit (.bool R.1), .lit (.bool R.2)])) := by
 refine VPure.runR mixed Tryz.call23 Tryz.func23 rfl (by simp [Tryz.ntmps23]; kernel_rfl) ?_
 obtain ⟨KF, h, kF, kN⟩ := fun_intro h
 simp only [g_law03_surely] at h
 rcases o3 : (g_coat_Word x0_s x1_plan) with _ | r2
 ·simp only [o3, hs] at h
  exact absurd h kN
 simp only [o3, hs] at h
 simp only [vz, tyf, nm, seval]
 refine ktree (args0 := [.agg (cGCoatSheet x0_s), .sl (cellsL eI x1_plan) (List.length x1_plan) false]) (by first | (simp only [nrm, tynrm] <;> rfl) | rfl) (by simp only [tre, tytre, Bool.and_self]) (g_coat_Word_ok _ _ _ o3) ?_
 refine fin_cut (fun tm => tm 11 = .tup [.lit (.int .i64 r2.1), .lit (.int .i64 r2.2)] ∧ True) (by refine ⟨?_, trivial⟩ <;> first | (simp only [ua, nm, seval] <;> rfl) | rfl) ?_
 rintro tm ⟨e4, _⟩
 cases d5 : (r2.2 == 0)
 ·simp only [d5, hs] at h
  try simp only [vz, tyf, e4, d5, nm, seval]
  refine opd_ret (x := (.tup [.lit (.bool false), .lit (.bool false)])) (by first | (simp only [Tryz.results23, resV, resL, resV1, tgt_ptr, tgt_tp, uw, cr, tyf, d5, nm, seval] <;> rfl) | rfl) ?_
  obtain rfl := kF _ h
  refine rr_tree ?_ ?_
  ·simp only [tre, tytre, Bool.and_self]
  ·first | (simp only [outV, uw, showV_ref, cr, tyf, nrm, tynrm, e4, d5, nm, seval] <;> rfl) | rfl
 simp only [d5, hs] at h
 cases d6 : (decide (r2.1 ≥ 1))
 ·simp only [d6, hs] at h
  try simp only [vz, tyf, e4, d5, d6, nm, seval]
  refine opd_ret (x := (.tup [.lit (.bool (r2.1 == 3)), .lit (.bool false)])) (by first | (simp only [Tryz.results23, resV, resL, resV1, tgt_ptr, tgt_tp, uw, cr, tyf, d5, d6, nm, seval] <;> rfl) | rfl) ?_
  obtain rfl := kF _ h
  refine rr_tree ?_ ?_
  ·simp only [tre, tytre, Bool.and_self]
  ·first | (simp only [outV, uw, showV_ref, cr, tyf, nrm, tynrm, e4, d5, d6, nm, seval] <;> rfl) | rfl
 simp only [d6, hs] at h
 try simp only [vz, tyf, e4, d5, d6, nm, seval]
 refine opd_ret (x := (.tup [.lit (.bool (r2.1 == 3)), .lit (.bool (decide (r2.1 ≤ 3)))])) (by first | (simp only [Tryz.results23, resV, resL, resV1, tgt_ptr, tgt_tp, uw, cr, tyf, d5, d6, nm, seval] <;> rfl) | rfl) ?_
 obtain rfl := kF _ h
 refine rr_tree ?_ ?_
 ·simp only [tre, tytre, Bool.and_self]
 ·first | (simp only [outV, uw, showV_ref, cr, tyf, nrm, tynrm, e4, d5, d6, nm, seval] <;> rfl) | rfl
end Go.V
end
section
namespace Go.V
open Go Go.Proofs
def g_ref01_Same_l0 (x1_b : List Int) : List Int → Int → Option (LOut (Bool) (Unit))
 | [], c0_5 => some (.go ())
 | e0 :: p0, c0_5 => Option.bind (getI x1_b c0_5) (fun x1 => cond (e0 != x1) (some (.ret false)) (g_ref01_Same_l0 x1_b p0 (c0_5 + 1)))
def g_ref01_Same (x0_a : List Int) (x1_b : List Int) : Option (Bool) := cond ((List.length x0_a : Int) != (List.length x1_b : Int)) (some false) (cond (lenOk x0_a) (lbind (g_ref01_Same_l0 x1_b x0_a 0) (fun r3 => some r3) (fun c2 => some true) (fun _ _ => none)) none)
theorem g_ref01_Same_ok (x0_a : List Int) (x1_b : List Int) (R : Bool) (h : g_ref01_Same x0_a x1_b = some R) : VPure Tryz.prog G0 21 [.sl (cellsL eI x0_a) (List.length x0_a) false, .sl (cellsL eI x1_b) (List.length x1_b) false] (.tree (.lit (.bool R))) := by
 refine VPure.runR mixed Tryz.call21 Tryz.func21 rfl (by simp [Tryz.ntmps21]; kernel_rfl) ?_
 obtain ⟨KF, h, kF, kN⟩ := fun_intro h
 simp only [g_ref01_Same] at h
 cases d4 : ((List.length x0_a : Int) != (List.length x1_b : Int))
 ·simp only [d4, hs] at h
  cases g6 : (lenOk x0_a)
  ·simp only [g6, hs] at h
   exact absurd h kN
  simp only [g6, hs] at h
  simp only [vz, tyf, d4, g6, nm, seval]
  obtain ⟨K5, h, kR5, kG5, kB5, kN5⟩ := lbind_intro h kN
  obtain ⟨f5, hf5, h⟩ := call2 h
  obtain ⟨I5, hI5⟩ : ∃ I : Nat → St → Prop, I = (fun m st => ∃ (p5 : List Int) (c5_5 : Int), m = List.length p5 ∧ 0 ≤ c5_5 ∧ List.drop (Int.toNat c5_5) x0_a = p5 ∧ st.df = [] ∧ 7 ≤ st.nx ∧ st.tm 0 = .sl (cellsL eI x0_a) (List.length x0_a) false ∧ st.tm 1 = .sl (cellsL eI x1_b) (List.length x1_b) false ∧ st.tm 5 = .lit (.int .i64 c5_5) ∧ K5 (f5 p5 c5_5)) := ⟨_, rfl⟩
  refine loopK mixed (by kernel_rfl) I5 (List.length x0_a) (by rw [hI5]; refine ⟨x0_a, 0, rfl, Int.le_refl _, rfl, rfl, (show 7 ≤ 7 by omega), ?_, ?_, ?_, h⟩ <;> first | (simp only [ua, d4, nm, seval] <;> rfl) | rfl) ?_
  rintro m ⟨tm, H, nx5, df⟩ hinv
  rw [hI5] at hinv
  obtain ⟨p5, c5_5, rfl, hi5, hp5, hdf, hn5, e7, e8, e9, h⟩ := hinv
  simp only at hdf hn5 e7 e8 e9
  have n10 := base_ne0 (m := 7) (b := nx5) (by omega)
  subst hdf hf5
  cases p5 with
  | nil =>
   have d11 : (decide (c5_5 < (List.length x0_a : Int))) = false := not_lt_of_drop hi5 hp5
   simp only [g_ref01_Same_l0, hs, reduceCtorEq] at h
   replace h := kG5 _ h
   try dsimp only at h
   try simp only [hs] at h
   try simp only [vz, tyf, d4, g6, n10, e7, e8, e9, d11, nm, seval]
   obtain rfl := kF _ h
   exact opd_bool Tryz.results21 rfl
  | cons e5 p5 =>
   have d12 : (decide (c5_5 < (List.length x0_a : Int))) = true := lt_of_drop hi5 hp5
   have o14 := getI_of_drop hi5 hp5
   have w13 := wrap_next hi5 hp5 g6
   simp only [g_ref01_Same_l0, hs, reduceCtorEq] at h
   simp only [vz, tyf, d4, g6, n10, e7, e8, e9, d12, (ix23 o14), w13, nm, seval]
   refine cwp_drwQF (fun tm => tm 0 = .sl (cellsL eI x0_a) (List.length x0_a) false ∧ tm 1 = .sl (cellsL eI x1_b) (List.length x1_b) false ∧ tm 5 = .lit (.int .i64 c5_5) ∧ True) (by refine ⟨e7, e8, e9, trivial⟩ <;> first | (simp only [ua, d4, n10, e7, e8, e9, d12, w13, nm, seval] <;> rfl) | rfl) ?_
   rintro tm ⟨e15, e16, e17, _⟩
   rcases o19 : (getI x1_b c5_5) with _ | x18
   ·simp only [o19, hs] at h
    exact absurd h kN5
   simp only [o19, hs] at h
   cases d20 : (e5 != x18)
   ·simp only [d20, hs] at h
    simp only [vz, tyf, d4, g6, n10, d12, (ix23 o14), w13, e15, e16, e17, (ix23 o19), d20, nm, seval]
    exact ⟨List.length p5, Nat.lt_succ_self _, by rw [hI5]; refine ⟨p5, c5_5 + 1, rfl, Int.le_trans hi5 (Int.le_add_one (Int.le_refl _)), drop_next hi5 hp5, rfl, (show 7 ≤ nx5 + 16 by omega), e15, e16, ?_, h⟩ <;> first | (simp only [ua, d4, n10, d12, w13, e15, e16, e17, d20, nm, seval] <;> rfl) | rfl⟩
   simp only [d20, hs] at h
   try simp only [vz, tyf, d4, g6, n10, d12, (ix23 o14), w13, e15, e16, e17, (ix23 o19), d20, nm, seval]
   replace h := kR5 _ h
   try dsimp only at h
   obtain rfl := kF _ h
   exact opd_bool Tryz.results21 rfl
 simp only [d4, hs] at h
 try simp only [vz, tyf, d4, nm, seval]
 obtain rfl := kF _ h
 exact opd_bool Tryz.results21 rfl
end Go.V
end
section
namespace Go.V
open Go
set_option linter.unusedVariables false
set_option linter.unusedSimpArgs false
theorem same_l0_eq (b : List Int) : ∀ (p r : List Int) (i : Int), 0 ≤ i → b.drop i.toNat = r → p.length = r.length → g_ref01_Same_l0 b p i = goB (p == r)
 | [], [], _, _, _, _ => rfl
 | [], _ :: _, _, _, _, hl => by simp at hl
 | _ :: _, [], _, _, _, hl => by simp at hl
 | e :: p, q :: r, i, h0, h, hl => by
  have := same_l0_eq b p r (i + 1) (by omega) (drop_next h0 h) (by simpa using hl)
  simp only [g_ref01_Same_l0, getI_of_drop h0 h, Option.bind_some, this, List.cons_beq_cons, goB_and, bne, cnot]
theorem same_eq (a b : List Int) (h : lenOk a = true) : g_ref01_Same a b = some (a == b) := by
 unfold g_ref01_Same
 by_cases hl : a.length = b.length
 ·have : ((a.length : Int) != (b.length : Int)) = false := by simp [hl]
  simp only [this, cond_false, h, cond_true, same_l0_eq b a b 0 (by omega) rfl hl, goB_lbind]
  cases a == b <;> rfl
 ·have : ((a.length : Int) != (b.length : Int)) = true := by simp; omega
  have h2 : (a == b) = false := by
   simp only [beq_eq_false_iff_ne, ne_eq]
   intro hh; exact hl (by rw [hh])
  simp only [this, cond_true, h2]
theorem short_eq' (s : GCoatSheet) : ∃ b, g_law03_short s = some b := by
 unfold g_law03_short
 cases decide ((s.Dry.length : Int) ≤ 14) with
 | false => exact ⟨_, rfl⟩
 | true =>
 cases decide ((s.Work.length : Int) ≤ 16) with
 | false => exact ⟨_, rfl⟩
 | true => exact ⟨_, rfl⟩
theorem right_eq' {s : GCoatSheet} {p : List Int} (hs : OkS s) (hp : lenOk p = true) : ∃ b, g_law03_right s p = some b ∧ (b = true → sheetB s = true ∧ planB s p = true) := by
 unfold g_law03_right
 obtain ⟨b, hb⟩ := short_eq' s
 rw [hb, rSheet_eq hs, rPlan_eq hs hp]
 simp only [Option.bind_some]
 cases b with
 | false => exact ⟨false, rfl, fun h => by cases h⟩
 | true =>
 cases decide ((p.length : Int) ≤ 7) with
 | false => exact ⟨false, rfl, fun h => by cases h⟩
 | true =>
 cases sheetB s with
 | false => exact ⟨false, rfl, fun h => by cases h⟩
 | true => exact ⟨planB s p, rfl, fun h => ⟨rfl, h⟩⟩
theorem surelyL_eq {s : GCoatSheet} {p : List Int} (hs : OkS s) (hp : lenOk p = true) (h1 : sheetB s = true) (h2 : planB s p = true) : g_law03_surely s p = some (sureB s.Dry s.Coats p, true) := by
 unfold g_law03_surely
 rw [word_eq hs hp, h1, h2]
 simp only [cond_true, Option.bind_some]
 unfold wordW
 cases sureB s.Dry s.Coats p <;> cases (bestW s.Dry s.Coats p).isNone <;> rfl
theorem ltL_iff : ∀ {x y : List Int}, x.length = y.length → (ltL x y = true ↔ lexL x y)
 | [], [], _ => by simp [ltL, lexL]
 | [], _ :: _, h => by simp at h
 | _ :: _, [], h => by simp at h
 | a :: x, b :: y, h => by
  have ih := ltL_iff (x := x) (y := y) (by simpa using h)
  show (cond (a != b) (decide (a < b)) (ltL x y) = true) ↔ (a < b ∨ a = b ∧ lexL x y)
  by_cases hab : a = b
  ·subst hab
   simp [ih]
  ·have : (a != b) = true := by simpa using hab
   rw [this, cond_true, decide_eq_true_eq]
   constructor
   ·exact .inl
   ·rintro (h | h)
    ·exact h
    ·exact absurd h.1 hab
def binN : Nat → Nat → Nat
 | _, 0 => 1
 | 0, _ + 1 => 0
 | n + 1, d + 1 => binN n d + binN n (d + 1)
def fromN (p : List Int) : Nat := match p.getLast? with
 | some a => (a + 1).toNat
 | none => 0
theorem length_listsB {m : List Int → Int → Bool} {lim N : Nat} (hm : ∀ p j, m p j = true → ∀ a, p.getLast? = some a → p.length ≤ N → a < j) : ∀ (d : Nat) (p : List Int), p.length + d ≤ N + 1 → (listsB m lim d p).length ≤ binN (lim - fromN p) d
 | 0, p, _ => by rw [listsB]; cases lim - fromN p <;> exact Nat.le_refl _
 | d + 1, p, hp => by
  rw [listsB]
  have key : ∀ (k c : Nat), c + k = lim → ((List.range' c k).flatMap fun i : Nat => if m p (i : Int) then listsB m lim d (p ++ [(i : Int)]) else []).length ≤ binN (lim - max c (fromN p)) (d + 1) := by
   intro k
   induction k with
   | zero => intro c _; exact Nat.zero_le _
   | succ k ih =>
    intro c hc
    rw [List.range'_succ, List.flatMap_cons, List.length_append]
    have ih' := ih (c + 1) (by omega)
    by_cases hcf : c < fromN p
    ·have hw : m p (c : Int) = false := by
      cases hmm : m p (c : Int) with
      | false => rfl
      | true =>
       unfold fromN at hcf
       cases hl : p.getLast? with
       | none => rw [hl] at hcf; simp at hcf
       | some a =>
        rw [hl] at hcf
        have := hm p c hmm a hl (by omega)
        simp only at hcf
        omega
     rw [hw, show max c (fromN p) = max (c + 1) (fromN p) by omega]
     simpa using ih'
    ·have e1 : lim - max c (fromN p) = k + 1 := by omega
     have e2 : lim - max (c + 1) (fromN p) = k := by omega
     rw [e2] at ih'
     rw [e1]
     show _ ≤ binN k d + binN k (d + 1)
     have hw : (if m p (c : Int) then listsB m lim d (p ++ [(c : Int)]) else []).length ≤ binN k d := by
      split
      ·have := length_listsB (lim := lim) hm d (p ++ [(c : Int)]) (by simp; omega)
       have e3 : fromN (p ++ [(c : Int)]) = c + 1 := by
        unfold fromN
        simp
       rw [e3, show lim - (c + 1) = k by omega] at this
       exact this
      ·exact Nat.zero_le _
     omega
  have := key lim 0 (by omega)
  rw [show max 0 (fromN p) = fromN p by omega] at this
  exact this
theorem binN_le : ∀ n, n < 13 → ∀ d, d < 6 → binN n d ≤ 792 := by decide
theorem plansL_len {s : GCoatSheet} (h : ShOk s) {L : List (List Int)} (hP : PlansL s L) : L.length ≤ 792 := by
 obtain ⟨m, rfl, hm⟩ := hP.ch
 have hc := h.c
 have hd := h.dk.l
 have := length_listsB (m := m) (lim := s.Dry.length) (N := s.Coats.length) (fun p j hj a ha hl => (hm p j hj).2 a ha hl) s.Coats.length [] (by simp)
 have e : fromN [] = 0 := rfl
 rw [e, Nat.sub_zero] at this
 exact Nat.le_trans this (binN_le _ (by omega) _ (by omega))
theorem count_eq {s : GCoatSheet} (hs : OkS s) (h1 : sheetB s = true) {L : List (List Int)} (hP : PlansL s L) : g_coat_Count s = some ((L.length : Int), 0) := by
 have h := ShOk.of h1
 have := plansL_len h hP
 unfold g_coat_Count
 rw [isSheet_eq hs, h1, Option.bind_some, cond_true, summed_of h.dk, Option.bind_some, hP.it, Option.bind_some, lenOk_of (by omega)]
 rfl
end Go.V
end
section
namespace Go.V
open Go Go.Proofs
def g_law03_CoatRival (x0_s : GCoatSheet) (x1_a1 : List Int) : Option (Bool) := Option.bind (g_law03_right x0_s x1_a1) (fun r1 => cond (r1) (Option.bind (g_coat_First x0_s) (fun r2 => Option.bind (g_coat_Count x0_s) (fun r3 => Option.bind (g_law03_surely x0_s x1_a1) (fun r4 => cond (r4.2) (cond (r2.2 != 0) (cond (r2.2 != 5) (some false) (cond (r3.2 != 0) (some false) (cond (decide (r3.1 < 0)) (some false) (cond (decide (r3.1 > 792)) (some false) (cond ((decide (r3.1 > 0)) != (r2.2 == 0)) (some false) (cond (r4.1) (some false) (some true))))))) (cond (r3.2 != 0) (some false) (cond (decide (r3.1 < 0)) (some false) (cond (decide (r3.1 > 792)) (some false) (cond ((decide (r3.1 > 0)) != (r2.2 == 0)) (some false) (cond (r4.1) (Option.bind (g_ref03_Plan x0_s r2.1) (fun r5 => cond (r5) (Option.bind (g_law03_surely x0_s r2.1) (fun r6 => cond (r6.2) (cond (r6.1) (Option.bind (g_ref01_Before x1_a1 r2.1) (fun r7 => cond (r7) (some false) (Option.bind (g_ref01_Same x1_a1 r2.1) (fun r8 => cond (r8) (some true) (cond (decide (r3.1 > 1)) (some true) (some false)))))) (some false)) (some false))) (some false))) (Option.bind (g_ref03_Plan x0_s r2.1) (fun r9 => cond (r9) (Option.bind (g_law03_surely x0_s r2.1) (fun r10 => cond (r10.2) (cond (r10.1) (some true) (some false)) (some false))) (some false))))))))) (some false))))) (some true))
theorem g_law03_CoatRival_ok (x0_s : GCoatSheet) (x1_a1 : List Int) (R : Bool) (h : g_law03_CoatRival x0_s x1_a1 = some R) : VPure Tryz.prog G0 4 [.agg (cGCoatSheet x0_s), .sl (cellsL eI x1_a1) (List.length x1_a1) false] (.tree (.lit (.bool R))) := by
 refine VPure.runR mixed Tryz.call4 Tryz.func4 rfl (by simp [Tryz.ntmps4]; kernel_rfl) ?_
 obtain ⟨KF, h, kF, kN⟩ := fun_intro h
 simp only [g_law03_CoatRival] at h
 rcases o12 : (g_law03_right x0_s x1_a1) with _ | r11
 ·simp only [o12, hs] at h
  exact absurd h kN
 simp only [o12, hs] at h
 simp only [vz, tyf, nm, seval]
 refine ktree (args0 := [.agg (cGCoatSheet x0_s), .sl (cellsL eI x1_a1) (List.length x1_a1) false]) (by first | (simp only [nrm, tynrm] <;> rfl) | rfl) (by simp only [tre, tytre, Bool.and_self]) (g_law03_right_ok _ _ _ o12) ?_
 refine fin_cut (fun tm => tm 1 = .sl (cellsL eI x1_a1) (List.length x1_a1) false ∧ tm 2 = .ptr 0 0 ∧ tm 15 = .lit (.bool r11) ∧ True) (by refine ⟨?_, ?_, ?_, trivial⟩ <;> first | (simp only [ua, nm, seval] <;> rfl) | rfl) ?_
 rintro tm ⟨e13, e14, e15, _⟩
 cases d16 : (r11)
 ·simp only [d16, hs] at h
  simp only [vz, tyf, e13, e14, e15, d16, nm, seval]
  refine ktree0 g_law03_known_ok ?_
  try simp only [vz, tyf, e13, e14, e15, d16, nm, seval]
  obtain rfl := kF _ h
  exact opd_bool Tryz.results4 rfl
 simp only [d16, hs] at h
 rcases o18 : (g_coat_First x0_s) with _ | r17
 ·simp only [o18, hs] at h
  exact absurd h kN
 simp only [o18, hs] at h
 simp only [vz, tyf, e13, e14, e15, d16, nm, seval]
 refine ktree (args0 := [.agg (cGCoatSheet x0_s)]) (by first | (simp only [nrm, tynrm] <;> rfl) | rfl) (by simp only [tre, tytre, Bool.and_self]) (g_coat_First_ok _ _ o18) ?_
 refine fin_cut (fun tm => tm 1 = .sl (cellsL eI x1_a1) (List.length x1_a1) false ∧ tm 2 = .ptr 0 0 ∧ tm 20 = .tup [.sl (cellsL eI r17.1) (List.length r17.1) false, .lit (.int .i64 r17.2)] ∧ True) (by refine ⟨e13, e14, ?_, trivial⟩ <;> first | (simp only [ua, e13, e14, e15, d16, nm, seval] <;> rfl) | rfl) ?_
 rintro tm ⟨e19, e20, e21, _⟩
 rcases o23 : (g_coat_Count x0_s) with _ | r22
 ·simp only [o23, hs] at h
  exact absurd h kN
 simp only [o23, hs] at h
 simp only [vz, tyf, d16, e19, e20, e21, nm, seval]
 refine ktree (args0 := [.agg (cGCoatSheet x0_s)]) (by first | (simp only [nrm, tynrm] <;> rfl) | rfl) (by simp only [tre, tytre, Bool.and_self]) (g_coat_Count_ok _ _ o23) ?_
 refine fin_cut (fun tm => tm 1 = .sl (cellsL eI x1_a1) (List.length x1_a1) false ∧ tm 2 = .ptr 0 0 ∧ tm 5 = .sl (cellsL eI r17.1) (List.length r17.1) false ∧ tm 6 = .lit (.int .i64 r17.2) ∧ tm 25 = .tup [.lit (.int .i64 r22.1), .lit (.int .i64 r22.2)] ∧ True) (by refine ⟨e19, e20, ?_, ?_, ?_, trivial⟩ <;> first | (simp only [ua, d16, e19, e20, e21, nm, seval] <;> rfl) | rfl) ?_
 rintro tm ⟨e24, e25, e26, e27, e28, _⟩
 rcases o30 : (g_law03_surely x0_s x1_a1) with _ | r29
 ·simp only [o30, hs] at h
  exact absurd h kN
 simp only [o30, hs] at h
 simp only [vz, tyf, d16, e24, e25, e26, e27, e28, nm, seval]
 refine ktree (args0 := [.agg (cGCoatSheet x0_s), .sl (cellsL eI x1_a1) (List.length x1_a1) false]) (by first | (simp only [nrm, tynrm] <;> rfl) | rfl) (by simp only [tre, tytre, Bool.and_self]) (g_law03_surely_ok _ _ _ o30) ?_
 refine fin_cut (fun tm => tm 1 = .sl (cellsL eI x1_a1) (List.length x1_a1) false ∧ tm 2 = .ptr 0 0 ∧ tm 5 = .sl (cellsL eI r17.1) (List.length r17.1) false ∧ tm 6 = .lit (.int .i64 r17.2) ∧ tm 7 = .lit (.int .i64 r22.1) ∧ tm 8 = .lit (.int .i64 r22.2) ∧ tm 31 = .tup [.lit (.bool r29.1), .lit (.bool r29.2)] ∧ True) (by refine ⟨e24, e25, e26, e27, ?_, ?_, ?_, trivial⟩ <;> first | (simp only [ua, d16, e24, e25, e26, e27, e28, nm, seval] <;> rfl) | rfl) ?_
 rintro tm ⟨e31, e32, e33, e34, e35, e36, e37, _⟩
 cases d38 : (r29.2)
 ·simp only [d38, hs] at h
  try simp only [vz, tyf, d16, e31, e32, e33, e34, e35, e36, e37, d38, nm, seval]
  obtain rfl := kF _ h
  exact opd_bool Tryz.results4 rfl
 simp only [d38, hs] at h
 cases d39 : (r17.2 != 0)
 ·simp only [d39, hs] at h
  cases d40 : (r22.2 != 0)
  ·simp only [d40, hs] at h
   cases d41 : (decide (r22.1 < 0))
   ·simp only [d41, hs] at h
    cases d42 : (decide (r22.1 > 792))
    ·simp only [d42, hs] at h
     cases d43 : ((decide (r22.1 > 0)) != (r17.2 == 0))
     ·simp only [d43, hs] at h
      have b44 := And.intro d16 (And.intro d38 (And.intro d39 (And.intro d40 (And.intro d41 (And.intro d42 d43)))))
      cases d45 : (r29.1)
      ·simp only [d45, hs] at h
       rcases o47 : (g_ref03_Plan x0_s r17.1) with _ | r46
       ·simp only [o47, hs] at h
        exact absurd h kN
       simp only [o47, hs] at h
       simp only [vz, tyf, b44, e31, e32, e33, e34, e35, e36, e37, d45, nm, seval]
       refine ktree (args0 := [.agg (cGCoatSheet x0_s), .sl (cellsL eI r17.1) (List.length r17.1) false]) (by first | (simp only [nrm, tynrm] <;> rfl) | rfl) (by simp only [tre, tytre, Bool.and_self]) (g_ref03_Plan_ok _ _ _ o47) ?_
       refine fin_cut (fun tm => tm 1 = .sl (cellsL eI x1_a1) (List.length x1_a1) false ∧ tm 2 = .ptr 0 0 ∧ tm 5 = .sl (cellsL eI r17.1) (List.length r17.1) false ∧ tm 7 = .lit (.int .i64 r22.1) ∧ tm 9 = .lit (.bool false) ∧ tm 75 = .lit (.bool r46) ∧ True) (by refine ⟨e31, e32, e33, e35, ?_, ?_, trivial⟩ <;> first | (simp only [ua, b44, e31, e32, e33, e34, e35, e36, e37, d45, nm, seval] <;> rfl) | rfl) ?_
       rintro tm ⟨e48, e49, e50, e51, e52, e53, _⟩
       cases d54 : (r46)
       ·simp only [d54, hs] at h
        try simp only [vz, tyf, b44, d45, e48, e49, e50, e51, e52, e53, d54, nm, seval]
        obtain rfl := kF _ h
        exact opd_bool Tryz.results4 rfl
       simp only [d54, hs] at h
       rcases o56 : (g_law03_surely x0_s r17.1) with _ | r55
       ·simp only [o56, hs] at h
        exact absurd h kN
       simp only [o56, hs] at h
       simp only [vz, tyf, b44, d45, e48, e49, e50, e51, e52, e53, d54, nm, seval]
       refine ktree (args0 := [.agg (cGCoatSheet x0_s), .sl (cellsL eI r17.1) (List.length r17.1) false]) (by first | (simp only [nrm, tynrm] <;> rfl) | rfl) (by simp only [tre, tytre, Bool.and_self]) (g_law03_surely_ok _ _ _ o56) ?_
       refine fin_cut (fun tm => tm 1 = .sl (cellsL eI x1_a1) (List.length x1_a1) false ∧ tm 5 = .sl (cellsL eI r17.1) (List.length r17.1) false ∧ tm 7 = .lit (.int .i64 r22.1) ∧ tm 9 = .lit (.bool false) ∧ tm 80 = .tup [.lit (.bool r55.1), .lit (.bool r55.2)] ∧ True) (by refine ⟨e48, e50, e51, e52, ?_, trivial⟩ <;> first | (simp only [ua, b44, d45, e48, e49, e50, e51, e52, e53, d54, nm, seval] <;> rfl) | rfl) ?_
       rintro tm ⟨e57, e58, e59, e60, e61, _⟩
       cases d62 : (r55.2)
       ·simp only [d62, hs] at h
        try simp only [vz, tyf, b44, d45, d54, e57, e58, e59, e60, e61, d62, nm, seval]
        obtain rfl := kF _ h
        exact opd_bool Tryz.results4 rfl
       simp only [d62, hs] at h
       cases d63 : (r55.1)
       ·simp only [d63, hs] at h
        try simp only [vz, tyf, b44, d45, d54, e57, e58, e59, e60, e61, d62, d63, nm, seval]
        obtain rfl := kF _ h
        exact opd_bool Tryz.results4 rfl
       simp only [d63, hs] at h
       simp only [vz, tyf, b44, d45, d54, e57, e58, e59, e60, e61, d62, d63, nm, seval]
       refine ktree0 g_law03_known_ok ?_
       try simp only [vz, tyf, b44, d45, d54, e57, e58, e59, e60, e61, d62, d63, nm, seval]
       obtain rfl := kF _ h
       exact opd_bool Tryz.results4 rfl
      simp only [d45, hs] at h
      rcases o65 : (g_ref03_Plan x0_s r17.1) with _ | r64
      ·simp only [o65, hs] at h
       exact absurd h kN
      simp only [o65, hs] at h
      simp only [vz, tyf, b44, e31, e32, e33, e34, e35, e36, e37, d45, nm, seval]
      refine ktree (args0 := [.agg (cGCoatSheet x0_s), .sl (cellsL eI r17.1) (List.length r17.1) false]) (by first | (simp only [nrm, tynrm] <;> rfl) | rfl) (by simp only [tre, tytre, Bool.and_self]) (g_ref03_Plan_ok _ _ _ o65) ?_
      refine fin_cut (fun tm => tm 1 = .sl (cellsL eI x1_a1) (List.length x1_a1) false ∧ tm 2 = .ptr 0 0 ∧ tm 5 = .sl (cellsL eI r17.1) (List.length r17.1) false ∧ tm 7 = .lit (.int .i64 r22.1) ∧ tm 9 = .lit (.bool true) ∧ tm 75 = .lit (.bool r64) ∧ True) (by refine ⟨e31, e32, e33, e35, ?_, ?_, trivial⟩ <;> first | (simp only [ua, b44, e31, e32, e33, e34, e35, e36, e37, d45, nm, seval] <;> rfl) | rfl) ?_
      rintro tm ⟨e66, e67, e68, e69, e70, e71, _⟩
      cases d72 : (r64)
      ·simp only [d72, hs] at h
       try simp only [vz, tyf, b44, d45, e66, e67, e68, e69, e70, e71, d72, nm, seval]
       obtain rfl := kF _ h
       exact opd_bool Tryz.results4 rfl
      simp only [d72, hs] at h
      rcases o74 : (g_law03_surely x0_s r17.1) with _ | r73
      ·simp only [o74, hs] at h
       exact absurd h kN
      simp only [o74, hs] at h
      simp only [vz, tyf, b44, d45, e66, e67, e68, e69, e70, e71, d72, nm, seval]
      refine ktree (args0 := [.agg (cGCoatSheet x0_s), .sl (cellsL eI r17.1) (List.length r17.1) false]) (by first | (simp only [nrm, tynrm] <;> rfl) | rfl) (by simp only [tre, tytre, Bool.and_self]) (g_law03_surely_ok _ _ _ o74) ?_
      refine fin_cut (fun tm => tm 1 = .sl (cellsL eI x1_a1) (List.length x1_a1) false ∧ tm 5 = .sl (cellsL eI r17.1) (List.length r17.1) false ∧ tm 7 = .lit (.int .i64 r22.1) ∧ tm 9 = .lit (.bool true) ∧ tm 80 = .tup [.lit (.bool r73.1), .lit (.bool r73.2)] ∧ True) (by refine ⟨e66, e68, e69, e70, ?_, trivial⟩ <;> first | (simp only [ua, b44, d45, e66, e67, e68, e69, e70, e71, d72, nm, seval] <;> rfl) | rfl) ?_
      rintro tm ⟨e75, e76, e77, e78, e79, _⟩
      cases d80 : (r73.2)
      ·simp only [d80, hs] at h
       try simp only [vz, tyf, b44, d45, d72, e75, e76, e77, e78, e79, d80, nm, seval]
       obtain rfl := kF _ h
       exact opd_bool Tryz.results4 rfl
      simp only [d80, hs] at h
      cases d81 : (r73.1)
      ·simp only [d81, hs] at h
       try simp only [vz, tyf, b44, d45, d72, e75, e76, e77, e78, e79, d80, d81, nm, seval]
       obtain rfl := kF _ h
       exact opd_bool Tryz.results4 rfl
      simp only [d81, hs] at h
      rcases o83 : (g_ref01_Before x1_a1 r17.1) with _ | r82
      ·simp only [o83, hs] at h
       exact absurd h kN
      simp only [o83, hs] at h
      simp only [vz, tyf, b44, d45, d72, e75, e76, e77, e78, e79, d80, d81, nm, seval]
      refine ktree (args0 := [.sl (cellsL eI x1_a1) (List.length x1_a1) false, .sl (cellsL eI r17.1) (List.length r17.1) false]) (by first | (simp only [nrm, tynrm] <;> rfl) | rfl) (by simp only [tre, tytre, Bool.and_self]) (g_ref01_Before_ok _ _ _ o83) ?_
      refine fin_cut (fun tm => tm 1 = .sl (cellsL eI x1_a1) (List.length x1_a1) false ∧ tm 5 = .sl (cellsL eI r17.1) (List.length r17.1) false ∧ tm 7 = .lit (.int .i64 r22.1) ∧ tm 87 = .lit (.bool true) ∧ tm 90 = .lit (.bool false) ∧ tm 93 = .lit (.bool r82) ∧ True) (by refine ⟨e75, e76, e77, ?_, ?_, ?_, trivial⟩ <;> first | (simp only [ua, b44, d45, d72, e75, e76, e77, e78, e79, d80, d81, nm, seval] <;> rfl) | rfl) ?_
      rintro tm ⟨e84, e85, e86, e87, e88, e89, _⟩
      cases d90 : (r82)
      ·simp only [d90, hs] at h
       rcases o92 : (g_ref01_Same x1_a1 r17.1) with _ | r91
       ·simp only [o92, hs] at h
        exact absurd h kN
       simp only [o92, hs] at h
       simp only [vz, tyf, b44, d45, d72, d80, d81, e84, e85, e86, e87, e88, e89, d90, nm, seval]
       refine ktree (args0 := [.sl (cellsL eI x1_a1) (List.length x1_a1) false, .sl (cellsL eI r17.1) (List.length r17.1) false]) (by first | (simp only [nrm, tynrm] <;> rfl) | rfl) (by simp only [tre, tytre, Bool.and_self]) (g_ref01_Same_ok _ _ _ o92) ?_
       refine fin_cut (fun tm => tm 7 = .lit (.int .i64 r22.1) ∧ tm 87 = .lit (.bool true) ∧ tm 90 = .lit (.bool false) ∧ tm 95 = .lit (.bool true) ∧ tm 98 = .lit (.bool r91) ∧ True) (by refine ⟨e86, e87, e88, ?_, ?_, trivial⟩ <;> first | (simp only [ua, b44, d45, d72, d80, d81, e84, e85, e86, e87, e88, e89, d90, nm, seval] <;> rfl) | rfl) ?_
       rintro tm ⟨e93, e94, e95, e96, e97, _⟩
       cases d98 : (r91)
       ·simp only [d98, hs] at h
        have b99 := And.intro b44 (And.intro d45 (And.intro d72 (And.intro d80 (And.intro d81 (And.intro d90 d98)))))
        cases d100 : (decide (r22.1 > 1))
        ·simp only [d100, hs] at h
         try simp only [vz, tyf, b99, e93, e94, e95, e96, e97, d100, nm, seval]
         obtain rfl := kF _ h
         exact opd_bool Tryz.results4 rfl
        simp only [d100, hs] at h
        simp only [vz, tyf, b99, e93, e94, e95, e96, e97, d100, nm, seval]
        refine ktree0 g_law03_known_ok ?_
        try simp only [vz, tyf, b99, e93, e94, e95, e96, e97, d100, nm, seval]
        obtain rfl := kF _ h
        exact opd_bool Tryz.results4 rfl
       simp only [d98, hs] at h
       have b101 := And.intro b44 (And.intro d45 (And.intro d72 (And.intro d80 (And.intro d81 (And.intro d90 d98)))))
       simp only [vz, tyf, b101, e93, e94, e95, e96, e97, nm, seval]
       refine ktree0 g_law03_known_ok ?_
       try simp only [vz, tyf, b101, e93, e94, e95, e96, e97, nm, seval]
       obtain rfl := kF _ h
       exact opd_bool Tryz.results4 rfl
      simp only [d90, hs] at h
      try simp only [vz, tyf, b44, d45, d72, d80, d81, e84, e85, e86, e87, e88, e89, d90, nm, seval]
      obtain rfl := kF _ h
      exact opd_bool Tryz.results4 rfl
     simp only [d43, hs] at h
     have b102 := And.intro d16 (And.intro d38 (And.intro d39 (And.intro d40 (And.intro d41 (And.intro d42 d43)))))
     try simp only [vz, tyf, b102, e31, e32, e33, e34, e35, e36, e37, nm, seval]
     obtain rfl := kF _ h
     exact opd_bool Tryz.results4 rfl
    simp only [d42, hs] at h
    try simp only [vz, tyf, d16, e31, e32, e33, e34, e35, e36, e37, d38, d39, d40, d41, d42, nm, seval]
    obtain rfl := kF _ h
    exact opd_bool Tryz.results4 rfl
   simp only [d41, hs] at h
   try simp only [vz, tyf, d16, e31, e32, e33, e34, e35, e36, e37, d38, d39, d40, d41, nm, seval]
   obtain rfl := kF _ h
   exact opd_bool Tryz.results4 rfl
  simp only [d40, hs] at h
  try simp only [vz, tyf, d16, e31, e32, e33, e34, e35, e36, e37, d38, d39, d40, nm, seval]
  obtain rfl := kF _ h
  exact opd_bool Tryz.results4 rfl
 simp only [d39, hs] at h
 cases d103 : (r17.2 != 5)
 ·simp only [d103, hs] at h
  cases d104 : (r22.2 != 0)
  ·simp only [d104, hs] at h
   cases d105 : (decide (r22.1 < 0))
   ·simp only [d105, hs] at h
    cases d106 : (decide (r22.1 > 792))
    ·simp only [d106, hs] at h
     have b107 := And.intro d16 (And.intro d38 (And.intro d39 (And.intro d103 (And.intro d104 (And.intro d105 d106)))))
     cases d108 : ((decide (r22.1 > 0)) != (r17.2 == 0))
     ·simp only [d108, hs] at h
      cases d109 : (r29.1)
      ·simp only [d109, hs] at h
       simp only [vz, tyf, b107, e31, e32, e33, e34, e35, e36, e37, d108, d109, nm, seval]
       refine ktree0 g_law03_known_ok ?_
       try simp only [vz, tyf, b107, e31, e32, e33, e34, e35, e36, e37, d108, d109, nm, seval]
       obtain rfl := kF _ h
       exact opd_bool Tryz.results4 rfl
      simp only [d109, hs] at h
      try simp only [vz, tyf, b107, e31, e32, e33, e34, e35, e36, e37, d108, d109, nm, seval]
      obtain rfl := kF _ h
      exact opd_bool Tryz.results4 rfl
     simp only [d108, hs] at h
     try simp only [vz, tyf, b107, e31, e32, e33, e34, e35, e36, e37, d108, nm, seval]
     obtain rfl := kF _ h
     exact opd_bool Tryz.results4 rfl
    simp only [d106, hs] at h
    have b110 := And.intro d16 (And.intro d38 (And.intro d39 (And.intro d103 (And.intro d104 (And.intro d105 d106)))))
    try simp only [vz, tyf, b110, e31, e32, e33, e34, e35, e36, e37, nm, seval]
    obtain rfl := kF _ h
    exact opd_bool Tryz.results4 rfl
   simp only [d105, hs] at h
   try simp only [vz, tyf, d16, e31, e32, e33, e34, e35, e36, e37, d38, d39, d103, d104, d105, nm, seval]
   obtain rfl := kF _ h
   exact opd_bool Tryz.results4 rfl
  simp only [d104, hs] at h
  try simp only [vz, tyf, d16, e31, e32, e33, e34, e35, e36, e37, d38, d39, d103, d104, nm, seval]
  obtain rfl := kF _ h
  exact opd_bool Tryz.results4 rfl
 simp only [d103, hs] at h
 try simp only [vz, tyf, d16, e31, e32, e33, e34, e35, e36, e37, d38, d39, d103, nm, seval]
 obtain rfl := kF _ h
 exact opd_bool Tryz.results4 rfl
end Go.V
end
section
namespace Go.V
open Go
theorem CoatRival_true (s : GCoatSheet) (o : List Int) (h : lenOk s.Dry = true ∧ lenOk s.Work = true ∧ lenOk s.Coats = true) (ho : lenOk o = true) : g_law03_CoatRival s o = some true := by
 have hs : OkS s := ⟨h.1, h.2.1, h.2.2⟩
 unfold g_law03_CoatRival
 obtain ⟨b, hb, hbt⟩ := right_eq' hs ho
 rw [hb]
 simp only [Option.bind_some]
 cases b with
 | false => rfl
 | true =>
 obtain ⟨h1, h2⟩ := hbt rfl
 have hS := ShOk.of h1
 obtain ⟨L, hP, e1⟩ := first_eq hs h1
 have e2 := count_eq hs h1 hP
 have hlen := plansL_len hS hP
 rw [e1, e2, surelyL_eq hs ho h1 h2]
 simp only [cond_true, Option.bind_some]
 have hmem := hP.mem
 have hpw := hP.pw
 have g1 : decide ((L.length : Int) < 0) = false := by simp
 have g2 : decide ((L.length : Int) > 792) = false := by simp; omega
 rw [g1, g2]
 cases L with
 | nil =>
  have hso : sureB s.Dry s.Coats o = false := by
   cases hh : sureB s.Dry s.Coats o with
   | false => rfl
   | true => exact absurd ((hmem o).2 ⟨h2, hh⟩) (by simp)
  rw [hso]
  rfl
 | cons q L =>
  obtain ⟨hq1, hq2⟩ := (hmem q).1 (by simp)
  have hv := VP.of h1 hq1
  have hvo := VP.of h1 h2
  have hql := hv.pl
  have g3 : decide (((q :: L).length : Int) > 0) = true := by simp
  rw [g3]
  have e3 : headE (q :: L) = (q, 0) := rfl
  rw [e3]
  simp only
  rw [rPlan_eq hs hql, hq1, surelyL_eq hs hql h1 hq1, hq2]
  cases hso : sureB s.Dry s.Coats o with
  | false => rfl
  | true =>
   have ho2 := (hmem o).2 ⟨h2, hso⟩
   have hlo : o.length = q.length := by rw [hvo.l, hv.l]
   rw [before_eq ho hlo, same_eq o q ho]
   have hbf : ltL o q = false := by
    cases hlt : ltL o q with
    | false => rfl
    | true =>
     have h3 := (ltL_iff hlo).1 hlt
     rcases List.mem_cons.1 ho2 with rfl | hm
     ·exact absurd h3 lexL_irrefl
     ·exact absurd (lexL_trans h3 ((List.pairwise_cons.1 hpw).1 o hm)) lexL_irrefl
   rw [hbf]
   cases hoq : (o == q) with
   | true => rfl
   | false =>
    have hm : o ∈ L := by
     rcases List.mem_cons.1 ho2 with rfl | hm
     ·simp at hoq
     ·exact hm
    have g4 : decide (((q :: L).length : Int) > 1) = true := by
     cases L with
     | nil => cases hm
     | cons _ _ => simp; omega
    rw [g4]
    rfl
end Go.V
end
