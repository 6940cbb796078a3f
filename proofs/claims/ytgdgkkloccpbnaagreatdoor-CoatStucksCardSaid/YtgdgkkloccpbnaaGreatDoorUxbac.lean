/- Part of a proof: a logic of values by content, lifted functions, what follows. -/
import Derived.Test.YtgdgkkloccpbnaaGreatDoorUbc
import Derived.Test.YtgdgkkloccpbnaaGreatDoorUbe
import Derived.Test.YtgdgkkloccpbnaaGreatDoorUbn
import Derived.Test.YtgdgkkloccpbnaaGreatDoorUbl
import Derived.Test.YtgdgkkloccpbnaaGreatDoorUbf
set_option linter.all false
set_option maxRecDepth 4000
set_option maxHeartbeats 40000000
section
set_option maxRecDepth 100000
namespace Go.V
open Go Go.Proofs
def Ok_GCoatSheet (x : GCoatSheet) : Prop := lenOk x.Dry = true ∧ lenOk x.Work = true ∧ lenOk x.Coats = true
section
variable {P : Program} (hu3 : P.underlying 3 = some (.int .i64)) {f56 : Array Field} (hu56 : P.underlying 56 = some (.struct f56)) (ht56 : f56.toList.map Field.type = [3, 3]) (hu22 : P.underlying 22 = some (.slice 56)) (hu23 : P.underlying 23 = some (.slice 3)) {f59 : Array Field} (hu59 : P.underlying 59 = some (.struct f59)) (ht59 : f59.toList.map Field.type = [3, 3]) (hu24 : P.underlying 24 = some (.slice 59)) {f26 : Array Field} (hu26 : P.underlying 26 = some (.struct f26)) (ht26 : f26.toList.map Field.type = [22, 23, 24])
include hu3 hu56 ht56 hu22 hu23 hu59 ht59 hu24 hu26 ht26
theorem gd_3 {n : Nat} : Dec P (n + 1) 3 eI (fun _ => True) := dec_int hu3
theorem gd_56 {n : Nat} : Dec P (n + 2) 56 cGSpan (fun _ => True) := by
 intro xs h
 obtain ⟨yss, hf, rfl⟩ := dec_struct (n := n + 1) (ts := [3, 3]) hu56 ht56 h
 match yss, hf with
 | [y0, y1], ⟨h0, h1, _⟩ =>
  obtain ⟨x0, r0, e0⟩ := gd_3 hu3 hu56 ht56 hu22 hu23 hu59 ht59 hu24 hu26 ht26 (n := n + 0) _ h0
  obtain ⟨x1, r1, e1⟩ := gd_3 hu3 hu56 ht56 hu22 hu23 hu59 ht59 hu24 hu26 ht26 (n := n + 0) _ h1
  exact ⟨⟨x0, x1⟩, trivial, by simp only [List.flatten_cons, List.flatten_nil, List.append_nil, normL_append, e0, e1, eI, eU8, eB, eS, eSl, cGSpan_eq, List.cons_append, List.nil_append]⟩
theorem gd_22 {n : Nat} : Dec P (n + 3) 22 (eSl cGSpan) (fun l => lenOk l = true ∧ ∀ x ∈ l, True) := dec_slice hu22 (gd_56 hu3 hu56 ht56 hu22 hu23 hu59 ht59 hu24 hu26 ht26 (n := n))
theorem gd_23 {n : Nat} : Dec P (n + 2) 23 (eSl eI) (fun l => lenOk l = true ∧ ∀ x ∈ l, True) := dec_slice hu23 (gd_3 hu3 hu56 ht56 hu22 hu23 hu59 ht59 hu24 hu26 ht26 (n := n))
theorem gd_59 {n : Nat} : Dec P (n + 2) 59 cGCoatCoat (fun _ => True) := by
 intro xs h
 obtain ⟨yss, hf, rfl⟩ := dec_struct (n := n + 1) (ts := [3, 3]) hu59 ht59 h
 match yss, hf with
 | [y0, y1], ⟨h0, h1, _⟩ =>
  obtain ⟨x0, r0, e0⟩ := gd_3 hu3 hu56 ht56 hu22 hu23 hu59 ht59 hu24 hu26 ht26 (n := n + 0) _ h0
  obtain ⟨x1, r1, e1⟩ := gd_3 hu3 hu56 ht56 hu22 hu23 hu59 ht59 hu24 hu26 ht26 (n := n + 0) _ h1
  exact ⟨⟨x0, x1⟩, trivial, by simp only [List.flatten_cons, List.flatten_nil, List.append_nil, normL_append, e0, e1, eI, eU8, eB, eS, eSl, cGCoatCoat_eq, List.cons_append, List.nil_append]⟩
theorem gd_24 {n : Nat} : Dec P (n + 3) 24 (eSl cGCoatCoat) (fun l => lenOk l = true ∧ ∀ x ∈ l, True) := dec_slice hu24 (gd_59 hu3 hu56 ht56 hu22 hu23 hu59 ht59 hu24 hu26 ht26 (n := n))
theorem gd_26 {n : Nat} : Dec P (n + 4) 26 cGCoatSheet (Ok_GCoatSheet) := by
 intro xs h
 obtain ⟨yss, hf, rfl⟩ := dec_struct (n := n + 3) (ts := [22, 23, 24]) hu26 ht26 h
 match yss, hf with
 | [y0, y1, y2], ⟨h0, h1, h2, _⟩ =>
  obtain ⟨x0, r0, e0⟩ := gd_22 hu3 hu56 ht56 hu22 hu23 hu59 ht59 hu24 hu26 ht26 (n := n + 0) _ h0
  obtain ⟨x1, r1, e1⟩ := gd_23 hu3 hu56 ht56 hu22 hu23 hu59 ht59 hu24 hu26 ht26 (n := n + 1) _ h1
  obtain ⟨x2, r2, e2⟩ := gd_24 hu3 hu56 ht56 hu22 hu23 hu59 ht59 hu24 hu26 ht26 (n := n + 0) _ h2
  exact ⟨⟨x0, x1, x2⟩, ⟨r0.1, r1.1, r2.1⟩, by simp only [List.flatten_cons, List.flatten_nil, List.append_nil, normL_append, e0, e1, e2, eI, eU8, eB, eS, eSl, cGCoatSheet_eq, List.cons_append, List.nil_append]⟩
end
theorem dec_26 {n : Nat} : Dec Tryz.prog (n + 4) 26 cGCoatSheet (Ok_GCoatSheet) := gd_26 Tryz.underlying3 Tryz.underlying56 (by kernel_rfl) Tryz.underlying22 Tryz.underlying23 Tryz.underlying59 (by kernel_rfl) Tryz.underlying24 Tryz.underlying26 (by kernel_rfl)
end Go.V
end
section
namespace Go.V
open Go Go.Proofs
def g_ref03_Stuck_l0 (x0_s : GCoatSheet) : List GCoatCoat → Int → Option (LOut (Int) (Unit))
 | [], c0_3 => some (.go ())
 | e0 :: p0, c0_3 => Option.bind (g_ref03_Upto x0_s c0_3) (fun r1 => Option.bind (g_ref03_All r1) (fun r2 => cond ((List.length r2 : Int) == 0) (some (.ret c0_3)) (g_ref03_Stuck_l0 x0_s p0 (c0_3 + 1))))
def g_ref03_Stuck (x0_s : GCoatSheet) : Option (Int) := cond (lenOk x0_s.Coats) (lbind (g_ref03_Stuck_l0 x0_s x0_s.Coats 0) (fun r4 => some r4) (fun c3 => some (-1)) (fun _ _ => none)) none
theorem g_ref03_Stuck_ok (x0_s : GCoatSheet) (R : Int) (h : g_ref03_Stuck x0_s = some R) : VPure Tryz.prog G0 35 [.agg (cGCoatSheet x0_s)] (.tree (.lit (.int .i64 R))) := by
 refine VPure.runR mixed Tryz.call35 Tryz.func35 rfl (by simp [Tryz.ntmps35]; kernel_rfl) ?_
 obtain ⟨KF, h, kF, kN⟩ := fun_intro h
 simp only [g_ref03_Stuck] at h
 cases g6 : (lenOk x0_s.Coats)
 ·simp only [g6, hs] at h
  exact absurd h kN
 simp only [g6, hs] at h
 simp only [vz, tyf, g6, nm, seval]
 obtain ⟨K5, h, kR5, kG5, kB5, kN5⟩ := lbind_intro h kN
 obtain ⟨f5, hf5, h⟩ := call2 h
 obtain ⟨I5, hI5⟩ : ∃ I : Nat → St → Prop, I = (fun m st => ∃ (p5 : List GCoatCoat) (c5_3 : Int), m = List.length p5 ∧ 0 ≤ c5_3 ∧ List.drop (Int.toNat c5_3) x0_s.Coats = p5 ∧ st.df = [] ∧ 3 ≤ st.nx ∧ st.H 0 = some (.cells (some 26) (cGCoatSheet x0_s)) ∧ st.tm 1 = .ptr 0 0 ∧ st.tm 3 = .lit (.int .i64 c5_3) ∧ K5 (f5 p5 c5_3)) := ⟨_, rfl⟩
 refine loopK mixed (by kernel_rfl) I5 (List.length x0_s.Coats) (by rw [hI5]; refine ⟨x0_s.Coats, 0, rfl, Int.le_refl _, rfl, rfl, (show 3 ≤ 3 by omega), ?_, ?_, ?_, h⟩ <;> first | (simp only [ua, nm, seval] <;> rfl) | rfl) ?_
 rintro m ⟨tm, H, nx5, df⟩ hinv
 rw [hI5] at hinv
 obtain ⟨p5, c5_3, rfl, hi5, hp5, hdf, hn5, H7, e8, e9, h⟩ := hinv
 simp only at hdf hn5 H7 e8 e9
 have n10 := base_ne0 (m := 3) (b := nx5) (by omega)
 subst hdf hf5
 cases p5 with
 | nil =>
  have d11 : (decide (c5_3 < (List.length x0_s.Coats : Int))) = false := not_lt_of_drop hi5 hp5
  simp only [g_ref03_Stuck_l0, hs, reduceCtorEq] at h
  replace h := kG5 _ h
  try dsimp only at h
  try simp only [hs] at h
  try simp only [vz, tyf, g6, n10, e8, e9, H7, d11, nm, seval]
  refine opd_ret (x := (.lit (.int .i64 (-1)))) (by first | (simp only [Tryz.results35, resV, resL, resV1, tgt_ptr, tgt_tp, uw, cr, tyf, g6, n10, H7, d11, nm, seval] <;> rfl) | rfl) ?_
  obtain rfl := kF _ h
  refine rr_tree ?_ ?_
  ·simp only [tre, tytre, Bool.and_self]
  ·first | (simp only [outV, uw, showV_ref, cr, tyf, nrm, tynrm, g6, n10, e8, e9, H7, d11, nm, seval] <;> rfl) | rfl
 | cons e5 p5 =>
  have d12 : (decide (c5_3 < (List.length x0_s.Coats : Int))) = true := lt_of_drop hi5 hp5
  have o14 := getI_of_drop hi5 hp5
  have w13 := wrap_next hi5 hp5 g6
  simp only [g_ref03_Stuck_l0, hs, reduceCtorEq] at h
  rcases o16 : (g_ref03_Upto x0_s c5_3) with _ | r15
  ·simp only [o16, hs] at h
   exact absurd h kN5
  simp only [o16, hs] at h
  simp only [vz, tyf, g6, n10, e8, e9, H7, d12, (ix24 o14), w13, nm, seval]
  refine ktree (args0 := [.agg (cGCoatSheet x0_s), .lit (.int .i64 c5_3)]) (by first | (simp only [nrm, tynrm] <;> rfl) | rfl) (by simp only [tre, tytre, Bool.and_self]) (g_ref03_Upto_ok _ _ _ o16) ?_
  refine fin_cut (fun tm => tm 1 = .ptr 0 0 ∧ tm 3 = .lit (.int .i64 c5_3) ∧ tm 13 = .agg (cGCoatSheet r15) ∧ True) (by refine ⟨e8, e9, ?_, trivial⟩ <;> first | (simp only [ua, n10, e8, e9, H7, d12, w13, nm, seval] <;> rfl) | rfl) ?_
  rintro tm ⟨e17, e18, e19, _⟩
  rcases o21 : (g_ref03_All r15) with _ | r20
  ·simp only [o21, hs] at h
   exact absurd h kN5
  simp only [o21, hs] at h
  simp only [vz, tyf, g6, n10, H7, d12, (ix24 o14), w13, e17, e18, e19, nm, seval]
  refine ktree (args0 := [.agg (cGCoatSheet r15)]) (by first | (simp only [nrm, tynrm] <;> rfl) | rfl) (by simp only [tre, tytre, Bool.and_self]) (g_ref03_All_ok _ _ o21) ?_
  refine fin_cut (fun tm => tm 1 = .ptr 0 0 ∧ tm 3 = .lit (.int .i64 c5_3) ∧ tm 14 = .sl (cellsL (eSl eI) r20) (List.length r20) false ∧ True) (by refine ⟨e17, e18, ?_, trivial⟩ <;> first | (simp only [ua, n10, H7, d12, w13, e17, e18, e19, nm, seval] <;> rfl) | rfl) ?_
  rintro tm ⟨e22, e23, e24, _⟩
  cases d25 : ((List.length r20 : Int) == 0)
  ·simp only [d25, hs] at h
   simp only [vz, tyf, g6, n10, H7, d12, (ix24 o14), w13, e22, e23, e24, d25, nm, seval]
   exact ⟨List.length p5, Nat.lt_succ_self _, by rw [hI5]; refine ⟨p5, c5_3 + 1, rfl, Int.le_trans hi5 (Int.le_add_one (Int.le_refl _)), drop_next hi5 hp5, rfl, (show 3 ≤ nx5 + 14 by omega), ?_, e22, ?_, h⟩ <;> first | (simp only [ua, n10, H7, d12, w13, e22, e23, e24, d25, nm, seval] <;> rfl) | rfl⟩
  simp only [d25, hs] at h
  try simp only [vz, tyf, g6, n10, H7, d12, (ix24 o14), w13, e22, e23, e24, d25, nm, seval]
  refine opd_ret (x := (.lit (.int .i64 c5_3))) (by first | (simp only [Tryz.results35, resV, resL, resV1, tgt_ptr, tgt_tp, uw, cr, tyf, g6, n10, H7, d12, (ix24 o14), w13, d25, nm, seval] <;> rfl) | rfl) ?_
  replace h := kR5 _ h
  try dsimp only at h
  obtain rfl := kF _ h
  refine rr_tree ?_ ?_
  ·simp only [tre, tytre, Bool.and_self]
  ·first | (simp only [outV, uw, showV_ref, cr, tyf, nrm, tynrm, g6, n10, H7, d12, (ix24 o14), w13, e22, e23, e24, d25, nm, seval] <;> rfl) | rfl
end Go.V
end
section
namespace Go.V
open Go
set_option linter.unusedVariables false
set_option linter.unusedSimpArgs false
theorem upto_eqR {s : GCoatSheet} (h : ShOk s) {n : Nat} (hn : n < s.Coats.length) : g_ref03_Upto s (n : Int) = some (upTo s (n + 1)) := by
 have hc := h.c
 have hsl : sliceO s.Coats 0 ((n : Int) + 1) = some (s.Coats.take (n + 1)) := by
  unfold sliceO
  rw [if_pos (by omega)]
  simp
 unfold g_ref03_Upto
 rw [wrap_eq (by omega) (by omega), hsl, Option.bind_some]
 have h1 : neB (s.Coats.take (n + 1)) = true := neB_of (by rw [List.length_take]; omega)
 have h2 : roomOk 16 (List.length ([] ++ s.Coats.take (n + 1))) = true := by
  simp only [roomOk, List.nil_append, List.length_take, decide_eq_true_eq]
  omega
 rw [h1, h2]
 simp only [cond_true, List.nil_append]
 rfl
theorem nep_filter {s : GCoatSheet} (h : ShOk s) : ((((allP s).filter (sureB s.Dry s.Coats)).length : Int) == 0) = false ↔ NEP s := by
 rw [beq_eq_false_iff_ne]
 constructor
 ·intro hne
  cases hf : (allP s).filter (sureB s.Dry s.Coats) with
  | nil => rw [hf] at hne; exact absurd rfl hne
  | cons q L =>
   have hq : q ∈ (allP s).filter (sureB s.Dry s.Coats) := by rw [hf]; simp
   rw [List.mem_filter, mem_allP h] at hq
   exact ⟨q, hq⟩
 ·rintro ⟨q, h1, h2⟩
  have hq : q ∈ (allP s).filter (sureB s.Dry s.Coats) := by rw [List.mem_filter, mem_allP h]; exact ⟨h1, h2⟩
  cases hf : (allP s).filter (sureB s.Dry s.Coats) with
  | nil => rw [hf] at hq; cases hq
  | cons q L => rw [List.length_cons]; omega
theorem rstuck_l0 {s : GCoatSheet} (h : ShOk s) : ∀ (p : List GCoatCoat) (c : Nat), c + p.length = s.Coats.length →
  (∃ n : Nat, g_ref03_Stuck_l0 s p (c : Int) = some (.ret (n : Int)) ∧ c ≤ n ∧ n < s.Coats.length ∧ ¬ NEP (upTo s (n + 1)) ∧ ∀ m, c ≤ m → m < n → NEP (upTo s (m + 1))) ∨
  (g_ref03_Stuck_l0 s p (c : Int) = some (.go ()) ∧ ∀ m, c ≤ m → m < s.Coats.length → NEP (upTo s (m + 1)))
 | [], c, hl => .inr ⟨rfl, fun m h1 h2 => by simp at hl; omega⟩
 | e :: p, c, hl => by
  rw [List.length_cons] at hl
  have hU := h.upTo (m := c + 1) (by omega)
  have hf := nep_filter hU
  rw [g_ref03_Stuck_l0, upto_eqR h (by omega), Option.bind_some, rAll_eq hU, Option.bind_some]
  cases hb : ((((allP (upTo s (c + 1))).filter (sureB (upTo s (c + 1)).Dry (upTo s (c + 1)).Coats)).length : Int) == 0) with
  | true =>
   left
   rw [hb] at hf
   refine ⟨c, rfl, Nat.le_refl _, by omega, fun hn => ?_, fun m h1 h2 => by omega⟩
   cases hf.2 hn
  | false =>
   have hn := hf.1 hb
   rcases rstuck_l0 h p (c + 1) (by omega) with ⟨n, e1, h2, h3, h4, h5⟩ | ⟨e1, h5⟩
   ·left
    refine ⟨n, e1, by omega, h3, h4, fun m h6 h7 => ?_⟩
    rcases Nat.eq_or_lt_of_le h6 with rfl | h8
    ·exact hn
    ·exact h5 m h8 h7
   ·right
    refine ⟨e1, fun m h6 h7 => ?_⟩
    rcases Nat.eq_or_lt_of_le h6 with rfl | h8
    ·exact hn
    ·exact h5 m h8 h7
theorem rstuck_eq {s : GCoatSheet} (h : ShOk s) : (∃ n : Nat, g_ref03_Stuck s = some (n : Int) ∧ n < s.Coats.length ∧ ¬ NEP (upTo s (n + 1)) ∧ ∀ m, m < n → NEP (upTo s (m + 1))) ∨ (g_ref03_Stuck s = some (-1) ∧ ∀ m, m < s.Coats.length → NEP (upTo s (m + 1))) := by
 have hc := h.c
 unfold g_ref03_Stuck
 rw [lenOk_of (by omega), cond_true]
 rcases rstuck_l0 h s.Coats 0 (by omega) with ⟨n, e, h1, h2, h3, h4⟩ | ⟨e, h4⟩
 ·left
  rw [show ((0 : Nat) : Int) = 0 from rfl] at e
  rw [e]
  exact ⟨n, rfl, h2, h3, fun m hm => h4 m (Nat.zero_le _) hm⟩
 ·right
  rw [show ((0 : Nat) : Int) = 0 from rfl] at e
  rw [e]
  exact ⟨rfl, fun m hm => h4 m (Nat.zero_le _) hm⟩
end Go.V
end
section
namespace Go.V
open Go Go.Proofs
def g_law03_CoatStucks (x0_s : GCoatSheet) : Option (Bool) := Option.bind (g_law03_short x0_s) (fun r1 => cond (r1) (Option.bind (g_coat_Stuck x0_s) (fun r2 => Option.bind (g_ref03_Sheet x0_s) (fun r3 => cond (r3) (Option.bind (g_ref03_Stuck x0_s) (fun r4 => cond (decide (r4 < 0)) (cond (r2.2 == 5) (cond (r2.1 == 0) (some true) (some false)) (some false)) (cond (r2.2 == 0) (cond (r2.1 == r4) (some true) (some false)) (some false)))) (cond (r2.2 == 2) (cond (r2.1 == 0) (some true) (some false)) (some false))))) (some true))
theorem g_law03_CoatStucks_ok (x0_s : GCoatSheet) (R : Bool) (h : g_law03_CoatStucks x0_s = some R) : VPure Tryz.prog G0 7 [.agg (cGCoatSheet x0_s)] (.tree (.lit (.bool R))) := by
 refine VPure.runR mixed Tryz.call7 Tryz.func7 rfl (by simp [Tryz.ntmps7]; kernel_rfl) ?_
 obtain ⟨KF, h, kF, kN⟩ := fun_intro h
 simp only [g_law03_CoatStucks] at h
 rcases o6 : (g_law03_short x0_s) with _ | r5
 ·simp only [o6, hs] at h
  exact absurd h kN
 simp only [o6, hs] at h
 simp only [vz, tyf, nm, seval]
 refine ktree (args0 := [.agg (cGCoatSheet x0_s)]) (by first | (simp only [nrm, tynrm] <;> rfl) | rfl) (by simp only [tre, tytre, Bool.and_self]) (g_law03_short_ok _ _ o6) ?_
 refine fin_cut (fun tm => tm 1 = .ptr 0 0 ∧ tm 7 = .lit (.bool r5) ∧ True) (by refine ⟨?_, ?_, trivial⟩ <;> first | (simp only [ua, nm, seval] <;> rfl) | rfl) ?_
 rintro tm ⟨e7, e8, _⟩
 cases d9 : (r5)
 ·simp only [d9, hs] at h
  simp only [vz, tyf, e7, e8, d9, nm, seval]
  refine ktree0 g_law03_known_ok ?_
  try simp only [vz, tyf, e7, e8, d9, nm, seval]
  obtain rfl := kF _ h
  exact opd_bool Tryz.results7 rfl
 simp only [d9, hs] at h
 rcases o11 : (g_coat_Stuck x0_s) with _ | r10
 ·simp only [o11, hs] at h
  exact absurd h kN
 simp only [o11, hs] at h
 simp only [vz, tyf, e7, e8, d9, nm, seval]
 refine ktree (args0 := [.agg (cGCoatSheet x0_s)]) (by first | (simp only [nrm, tynrm] <;> rfl) | rfl) (by simp only [tre, tytre, Bool.and_self]) (g_coat_Stuck_ok _ _ o11) ?_
 refine fin_cut (fun tm => tm 1 = .ptr 0 0 ∧ tm 12 = .tup [.lit (.int .i64 r10.1), .lit (.int .i64 r10.2)] ∧ True) (by refine ⟨e7, ?_, trivial⟩ <;> first | (simp only [ua, e7, e8, d9, nm, seval] <;> rfl) | rfl) ?_
 rintro tm ⟨e12, e13, _⟩
 rcases o15 : (g_ref03_Sheet x0_s) with _ | r14
 ·simp only [o15, hs] at h
  exact absurd h kN
 simp only [o15, hs] at h
 simp only [vz, tyf, d9, e12, e13, nm, seval]
 refine ktree (args0 := [.agg (cGCoatSheet x0_s)]) (by first | (simp only [nrm, tynrm] <;> rfl) | rfl) (by simp only [tre, tytre, Bool.and_self]) (g_ref03_Sheet_ok _ _ o15) ?_
 refine fin_cut (fun tm => tm 1 = .ptr 0 0 ∧ tm 3 = .lit (.int .i64 r10.1) ∧ tm 4 = .lit (.int .i64 r10.2) ∧ tm 16 = .lit (.bool r14) ∧ True) (by refine ⟨e12, ?_, ?_, ?_, trivial⟩ <;> first | (simp only [ua, d9, e12, e13, nm, seval] <;> rfl) | rfl) ?_
 rintro tm ⟨e16, e17, e18, e19, _⟩
 cases d20 : (r14)
 ·simp only [d20, hs] at h
  cases d21 : (r10.2 == 2)
  ·simp only [d21, hs] at h
   try simp only [vz, tyf, d9, e16, e17, e18, e19, d20, d21, nm, seval]
   obtain rfl := kF _ h
   exact opd_bool Tryz.results7 rfl
  simp only [d21, hs] at h
  cases d22 : (r10.1 == 0)
  ·simp only [d22, hs] at h
   try simp only [vz, tyf, d9, e16, e17, e18, e19, d20, d21, d22, nm, seval]
   obtain rfl := kF _ h
   exact opd_bool Tryz.results7 rfl
  simp only [d22, hs] at h
  simp only [vz, tyf, d9, e16, e17, e18, e19, d20, d21, d22, nm, seval]
  refine ktree0 g_law03_known_ok ?_
  try simp only [vz, tyf, d9, e16, e17, e18, e19, d20, d21, d22, nm, seval]
  obtain rfl := kF _ h
  exact opd_bool Tryz.results7 rfl
 simp only [d20, hs] at h
 rcases o24 : (g_ref03_Stuck x0_s) with _ | r23
 ·simp only [o24, hs] at h
  exact absurd h kN
 simp only [o24, hs] at h
 simp only [vz, tyf, d9, e16, e17, e18, e19, d20, nm, seval]
 refine ktree (args0 := [.agg (cGCoatSheet x0_s)]) (by first | (simp only [nrm, tynrm] <;> rfl) | rfl) (by simp only [tre, tytre, Bool.and_self]) (g_ref03_Stuck_ok _ _ o24) ?_
 refine fin_cut (fun tm => tm 3 = .lit (.int .i64 r10.1) ∧ tm 4 = .lit (.int .i64 r10.2) ∧ tm 28 = .lit (.int .i64 r23) ∧ True) (by refine ⟨e17, e18, ?_, trivial⟩ <;> first | (simp only [ua, d9, e16, e17, e18, e19, d20, nm, seval] <;> rfl) | rfl) ?_
 rintro tm ⟨e25, e26, e27, _⟩
 cases d28 : (decide (r23 < 0))
 ·simp only [d28, hs] at h
  cases d29 : (r10.2 == 0)
  ·simp only [d29, hs] at h
   try simp only [vz, tyf, d9, d20, e25, e26, e27, d28, d29, nm, seval]
   obtain rfl := kF _ h
   exact opd_bool Tryz.results7 rfl
  simp only [d29, hs] at h
  cases d30 : (r10.1 == r23)
  ·simp only [d30, hs] at h
   try simp only [vz, tyf, d9, d20, e25, e26, e27, d28, d29, d30, nm, seval]
   obtain rfl := kF _ h
   exact opd_bool Tryz.results7 rfl
  simp only [d30, hs] at h
  simp only [vz, tyf, d9, d20, e25, e26, e27, d28, d29, d30, nm, seval]
  refine ktree0 g_law03_known_ok ?_
  try simp only [vz, tyf, d9, d20, e25, e26, e27, d28, d29, d30, nm, seval]
  obtain rfl := kF _ h
  exact opd_bool Tryz.results7 rfl
 simp only [d28, hs] at h
 cases d31 : (r10.2 == 5)
 ·simp only [d31, hs] at h
  try simp only [vz, tyf, d9, d20, e25, e26, e27, d28, d31, nm, seval]
  obtain rfl := kF _ h
  exact opd_bool Tryz.results7 rfl
 simp only [d31, hs] at h
 cases d32 : (r10.1 == 0)
 ·simp only [d32, hs] at h
  try simp only [vz, tyf, d9, d20, e25, e26, e27, d28, d31, d32, nm, seval]
  obtain rfl := kF _ h
  exact opd_bool Tryz.results7 rfl
 simp only [d32, hs] at h
 simp only [vz, tyf, d9, d20, e25, e26, e27, d28, d31, d32, nm, seval]
 refine ktree0 g_law03_known_ok ?_
 try simp only [vz, tyf, d9, d20, e25, e26, e27, d28, d31, d32, nm, seval]
 obtain rfl := kF _ h
 exact opd_bool Tryz.results7 rfl
end Go.V
end
section
namespace Go.V
open Go
theorem CoatStucks_true (s : GCoatSheet) (h : lenOk s.Dry = true ∧ lenOk s.Work = true ∧ lenOk s.Coats = true) : g_law03_CoatStucks s = some true := by
 have hs : OkS s := ⟨h.1, h.2.1, h.2.2⟩
 unfold g_law03_CoatStucks
 obtain ⟨b, hb⟩ := short_eq' s
 rw [hb, rSheet_eq hs]
 simp only [Option.bind_some]
 cases b with
 | false => rfl
 | true =>
 simp only [cond_true]
 cases h1 : sheetB s with
 | false =>
  have e1 : g_coat_Stuck s = some (0, 2) := by unfold g_coat_Stuck; rw [isSheet_eq hs, h1]; rfl
  rw [e1]
  rfl
 | true =>
  have hS := ShOk.of h1
  rcases stuck_eq hs h1 with ⟨n, e1, h2, h3, h4⟩ | ⟨e1, h4⟩
  ·rcases rstuck_eq hS with ⟨m, e2, h5, h6, h7⟩ | ⟨e2, h7⟩
   ·have hnm : n = m := by
     rcases Nat.lt_trichotomy n m with hlt | heq | hgt
     ·exact absurd (h7 n hlt) h3
     ·exact heq
     ·exact absurd (h4 m hgt) h6
    subst hnm
    rw [e1, e2]
    simp only [Option.bind_some, cond_true]
    rw [show decide ((n : Int) < 0) = false from decide_eq_false (by omega)]
    simp
   ·exact absurd (h7 n h2) h3
  ·rcases rstuck_eq hS with ⟨m, e2, h5, h6, h7⟩ | ⟨e2, h7⟩
   ·exact absurd (h4 m h5) h6
   ·rw [e1, e2]
    rfl
end Go.V
end
