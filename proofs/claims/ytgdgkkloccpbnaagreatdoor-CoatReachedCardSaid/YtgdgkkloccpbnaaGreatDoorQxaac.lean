/- Part of a proof: a logic of values by content, lifted functions, what follows. -/
import Derived.Test.YtgdgkkloccpbnaaGreatDoorQbc
import Derived.Test.YtgdgkkloccpbnaaGreatDoorQbf
import Derived.Test.YtgdgkkloccpbnaaGreatDoorQbl
import Derived.Test.YtgdgkkloccpbnaaGreatDoorQbk
set_option linter.all false
set_option maxRecDepth 4000
set_option maxHeartbeats 40000000
section
set_option maxRecDepth 100000
namespace Go.V
open Go Go.Proofs
def Ok_GCoatSheet (x : GCoatSheet) : Prop := lenOk x.Dry = true ∧ lenOk x.Work = true ∧ lenOk x.Coats = true
section
variable {P : Program} (hu3 : P.underlying 3 = some (.int .i64)) {f56 : Array Field} (hu56 : P.underlying 56 = some (.struct f56)) (ht56 : f56.toList.map Field.type = [3, 3]) (hu22 : P.underlying 22 = some (.slice 56)) (hu23 : P.underlying 23 = some (.slice 3)) {f59 : Array Field} (hu59 : P.underlying 59 = some (.struct f59)) (ht59 : f59.toList.map Field.type = [3, 3]) (hu24 : P.underlying 24 = some (.slice 59)) {f26 : Array Field} (hu26 : P.underlying 26 = some (.struct f26)) (ht26 : f26.toList.map Field.type = [22, 23, 24])
include hu3 hu56 ht56 hu22 hu23 hu59 ht59 hu24 hu26 ht26
theorem gd_3 {n : Nat} : Dec P (n + 1) 3 eI (fun _ => True) := dec_int hu3
theorem gd_56 {n : Nat} : Dec P (n + 2) 56 cGSpan (fun _ => True) := by
 intro xs h
 obtain ⟨yss, hf, rfl⟩ := dec_struct (n := n + 1) (ts := [3, 3]) hu56 ht56 h
 match yss, hf with
 | [y0, y1], ⟨h0, h1, _⟩ =>
  obtain ⟨x0, r0, e0⟩ := gd_3 hu3 hu56 ht56 hu22 hu23 hu59 ht59 hu24 hu26 ht26 (n := n + 0) _ h0
  obtain ⟨x1, r1, e1⟩ := gd_3 hu3 hu56 ht56 hu22 hu23 hu59 ht59 hu24 hu26 ht26 (n := n + 0) _ h1
  exact ⟨⟨x0, x1⟩, trivial, by simp only [List.flatten_cons, List.flatten_nil, List.append_nil, normL_append, e0, e1, eI, eU8, eB, eS, eSl, cGSpan_eq, List.cons_append, List.nil_append]⟩
theorem gd_22 {n : Nat} : Dec P (n + 3) 22 (eSl cGSpan) (fun l => lenOk l = true ∧ ∀ x ∈ l, True) := dec_slice hu22 (gd_56 hu3 hu56 ht56 hu22 hu23 hu59 ht59 hu24 hu26 ht26 (n := n))
theorem gd_23 {n : Nat} : Dec P (n + 2) 23 (eSl eI) (fun l => lenOk l = true ∧ ∀ x ∈ l, True) := dec_slice hu23 (gd_3 hu3 hu56 ht56 hu22 hu23 hu59 ht59 hu24 hu26 ht26 (n := n))
theorem gd_59 {n : Nat} : Dec P (n + 2) 59 cGCoatCoat (fun _ => True) := by
 intro xs h
 obtain ⟨yss, hf, rfl⟩ := dec_struct (n := n + 1) (ts := [3, 3]) hu59 ht59 h
 match yss, hf with
 | [y0, y1], ⟨h0, h1, _⟩ =>
  obtain ⟨x0, r0, e0⟩ := gd_3 hu3 hu56 ht56 hu22 hu23 hu59 ht59 hu24 hu26 ht26 (n := n + 0) _ h0
  obtain ⟨x1, r1, e1⟩ := gd_3 hu3 hu56 ht56 hu22 hu23 hu59 ht59 hu24 hu26 ht26 (n := n + 0) _ h1
  exact ⟨⟨x0, x1⟩, trivial, by simp only [List.flatten_cons, List.flatten_nil, List.append_nil, normL_append, e0, e1, eI, eU8, eB, eS, eSl, cGCoatCoat_eq, List.cons_append, List.nil_append]⟩
theorem gd_24 {n : Nat} : Dec P (n + 3) 24 (eSl cGCoatCoat) (fun l => lenOk l = true ∧ ∀ x ∈ l, True) := dec_slice hu24 (gd_59 hu3 hu56 ht56 hu22 hu23 hu59 ht59 hu24 hu26 ht26 (n := n))
theorem gd_26 {n : Nat} : Dec P (n + 4) 26 cGCoatSheet (Ok_GCoatSheet) := by
 intro xs h
 obtain ⟨yss, hf, rfl⟩ := dec_struct (n := n + 3) (ts := [22, 23, 24]) hu26 ht26 h
 match yss, hf with
 | [y0, y1, y2], ⟨h0, h1, h2, _⟩ =>
  obtain ⟨x0, r0, e0⟩ := gd_22 hu3 hu56 ht56 hu22 hu23 hu59 ht59 hu24 hu26 ht26 (n := n + 0) _ h0
  obtain ⟨x1, r1, e1⟩ := gd_23 hu3 hu56 ht56 hu22 hu23 hu59 ht59 hu24 hu26 ht26 (n := n + 1) _ h1
  obtain ⟨x2, r2, e2⟩ := gd_24 hu3 hu56 ht56 hu22 hu23 hu59 ht59 hu24 hu26 ht26 (n := n + 0) _ h2
  exact ⟨⟨x0, x1, x2⟩, ⟨r0.1, r1.1, r2.1⟩, by simp only [List.flatten_cons, List.flatten_nil, List.append_nil, normL_append, e0, e1, e2, eI, eU8, eB, eS, eSl, cGCoatSheet_eq, List.cons_append, List.nil_append]⟩
end
theorem dec_3 {n : Nat} : Dec Tryz.prog (n + 1) 3 eI (fun _ => True) := gd_3 Tryz.underlying3 Tryz.underlying56 (by kernel_rfl) Tryz.underlying22 Tryz.underlying23 Tryz.underlying59 (by kernel_rfl) Tryz.underlying24 Tryz.underlying26 (by kernel_rfl)
theorem dec_23 {n : Nat} : Dec Tryz.prog (n + 2) 23 (eSl eI) (fun l => lenOk l = true ∧ ∀ x ∈ l, True) := gd_23 Tryz.underlying3 Tryz.underlying56 (by kernel_rfl) Tryz.underlying22 Tryz.underlying23 Tryz.underlying59 (by kernel_rfl) Tryz.underlying24 Tryz.underlying26 (by kernel_rfl)
theorem dec_26 {n : Nat} : Dec Tryz.prog (n + 4) 26 cGCoatSheet (Ok_GCoatSheet) := gd_26 Tryz.underlying3 Tryz.underlying56 (by kernel_rfl) Tryz.underlying22 Tryz.underlying23 Tryz.underlying59 (by kernel_rfl) Tryz.underlying24 Tryz.underlying26 (by kernel_rfl)
end Go.V
end
section
namespace Go.V
open Go Go.Proofs
def g_law03_CoatReached (x0_s : GCoatSheet) (x1_a1 : Int) : Option (Bool) := Option.bind (g_law03_short x0_s) (fun r1 => cond (r1) (Option.bind (g_ref03_Sheet x0_s) (fun r2 => cond (r2) (Option.bind (g_ref03_Coat x0_s x1_a1) (fun r3 => cond (r3) (Option.bind (g_coat_Stuck x0_s) (fun r4 => Option.bind (g_law03_can x0_s) (fun r5 => Option.bind (g_ref03_Upto x0_s x1_a1) (fun r6 => Option.bind (g_law03_can r6) (fun r7 => cond (r5.2) (cond (r7.2) (cond (r4.2 != 0) (cond (r4.2 != 5) (some false) (cond (r5.1 != (r4.2 == 5)) (some false) (cond (r4.2 == 0) (Option.bind (g_ref03_Coat x0_s r4.1) (fun r8 => cond (r8) (cond (r4.2 == 5) (cond (r7.1 == true) (some true) (some false)) (cond (r7.1 == (decide (x1_a1 < r4.1))) (some true) (some false))) (some false))) (cond (r4.2 == 5) (cond (r7.1 == true) (some true) (some false)) (cond (r7.1 == (decide (x1_a1 < r4.1))) (some true) (some false)))))) (cond (r5.1 != (r4.2 == 5)) (some false) (cond (r4.2 == 0) (Option.bind (g_ref03_Coat x0_s r4.1) (fun r9 => cond (r9) (cond (r4.2 == 5) (cond (r7.1 == true) (some true) (some false)) (cond (r7.1 == (decide (x1_a1 < r4.1))) (some true) (some false))) (some false))) (cond (r4.2 == 5) (cond (r7.1 == true) (some true) (some false)) (cond (r7.1 == (decide (x1_a1 < r4.1))) (some true) (some false)))))) (some false)) (some false)))))) (some true))) (some true))) (some true))
theorem g_law03_CoatReached_ok (x0_s : GCoatSheet) (x1_a1 : Int) (R : Bool) (h : g_law03_CoatReached x0_s x1_a1 = some R) : VPure Tryz.prog G0 8 [.agg (cGCoatSheet x0_s), .lit (.int .i64 x1_a1)] (.tree (.lit (.bool R))) := by
 refine VPure.runR mixed Tryz.call8 Tryz.func8 rfl (by simp [Tryz.ntmps8]; kernel_rfl) ?_
 obtain ⟨KF, h, kF, kN⟩ := fun_intro h
 simp only [g_law03_CoatReached] at h
 rcases o11 : (g_law03_short x0_s) with _ | r10
 ·simp only [o11, hs] at h
  exact absurd h kN
 simp only [o11, hs] at h
 simp only [vz, tyf, nm, seval]
 refine ktree (args0 := [.agg (cGCoatSheet x0_s)]) (by first | (simp only [nrm, tynrm] <;> rfl) | rfl) (by simp only [tre, tytre, Bool.and_self]) (g_law03_short_ok _ _ o11) ?_
 refine fin_cut (fun tm => tm 1 = .lit (.int .i64 x1_a1) ∧ tm 2 = .ptr 0 0 ∧ tm 12 = .lit (.bool r10) ∧ True) (by refine ⟨?_, ?_, ?_, trivial⟩ <;> first | (simp only [ua, nm, seval] <;> rfl) | rfl) ?_
 rintro tm ⟨e12, e13, e14, _⟩
 cases d15 : (r10)
 ·simp only [d15, hs] at h
  simp only [vz, tyf, e12, e13, e14, d15, nm, seval]
  refine ktree0 g_law03_known_ok ?_
  try simp only [vz, tyf, e12, e13, e14, d15, nm, seval]
  obtain rfl := kF _ h
  exact opd_bool Tryz.results8 rfl
 simp only [d15, hs] at h
 rcases o17 : (g_ref03_Sheet x0_s) with _ | r16
 ·simp only [o17, hs] at h
  exact absurd h kN
 simp only [o17, hs] at h
 simp only [vz, tyf, e12, e13, e14, d15, nm, seval]
 refine ktree (args0 := [.agg (cGCoatSheet x0_s)]) (by first | (simp only [nrm, tynrm] <;> rfl) | rfl) (by simp only [tre, tytre, Bool.and_self]) (g_ref03_Sheet_ok _ _ o17) ?_
 refine fin_cut (fun tm => tm 1 = .lit (.int .i64 x1_a1) ∧ tm 2 = .ptr 0 0 ∧ tm 14 = .lit (.bool false) ∧ tm 16 = .lit (.bool r16) ∧ True) (by refine ⟨e12, e13, ?_, ?_, trivial⟩ <;> first | (simp only [ua, e12, e13, e14, d15, nm, seval] <;> rfl) | rfl) ?_
 rintro tm ⟨e18, e19, e20, e21, _⟩
 cases d22 : (r16)
 ·simp only [d22, hs] at h
  simp only [vz, tyf, d15, e18, e19, e20, e21, d22, nm, seval]
  refine ktree0 g_law03_known_ok ?_
  try simp only [vz, tyf, d15, e18, e19, e20, e21, d22, nm, seval]
  obtain rfl := kF _ h
  exact opd_bool Tryz.results8 rfl
 simp only [d22, hs] at h
 rcases o24 : (g_ref03_Coat x0_s x1_a1) with _ | r23
 ·simp only [o24, hs] at h
  exact absurd h kN
 simp only [o24, hs] at h
 simp only [vz, tyf, d15, e18, e19, e20, e21, d22, nm, seval]
 refine ktree (args0 := [.agg (cGCoatSheet x0_s), .lit (.int .i64 x1_a1)]) (by first | (simp only [nrm, tynrm] <;> rfl) | rfl) (by simp only [tre, tytre, Bool.and_self]) (g_ref03_Coat_ok _ _ _ o24) ?_
 refine fin_cut (fun tm => tm 1 = .lit (.int .i64 x1_a1) ∧ tm 2 = .ptr 0 0 ∧ tm 19 = .lit (.bool false) ∧ tm 22 = .lit (.bool r23) ∧ True) (by refine ⟨e18, e19, ?_, ?_, trivial⟩ <;> first | (simp only [ua, d15, e18, e19, e20, e21, d22, nm, seval] <;> rfl) | rfl) ?_
 rintro tm ⟨e25, e26, e27, e28, _⟩
 cases d29 : (r23)
 ·simp only [d29, hs] at h
  simp only [vz, tyf, d15, d22, e25, e26, e27, e28, d29, nm, seval]
  refine ktree0 g_law03_known_ok ?_
  try simp only [vz, tyf, d15, d22, e25, e26, e27, e28, d29, nm, seval]
  obtain rfl := kF _ h
  exact opd_bool Tryz.results8 rfl
 simp only [d29, hs] at h
 rcases o31 : (g_coat_Stuck x0_s) with _ | r30
 ·simp only [o31, hs] at h
  exact absurd h kN
 simp only [o31, hs] at h
 simp only [vz, tyf, d15, d22, e25, e26, e27, e28, d29, nm, seval]
 refine ktree (args0 := [.agg (cGCoatSheet x0_s)]) (by first | (simp only [nrm, tynrm] <;> rfl) | rfl) (by simp only [tre, tytre, Bool.and_self]) (g_coat_Stuck_ok _ _ o31) ?_
 refine fin_cut (fun tm => tm 1 = .lit (.int .i64 x1_a1) ∧ tm 2 = .ptr 0 0 ∧ tm 28 = .tup [.lit (.int .i64 r30.1), .lit (.int .i64 r30.2)] ∧ True) (by refine ⟨e25, e26, ?_, trivial⟩ <;> first | (simp only [ua, d15, d22, e25, e26, e27, e28, d29, nm, seval] <;> rfl) | rfl) ?_
 rintro tm ⟨e32, e33, e34, _⟩
 rcases o36 : (g_law03_can x0_s) with _ | r35
 ·simp only [o36, hs] at h
  exact absurd h kN
 simp only [o36, hs] at h
 simp only [vz, tyf, d15, d22, d29, e32, e33, e34, nm, seval]
 refine ktree (args0 := [.agg (cGCoatSheet x0_s)]) (by first | (simp only [nrm, tynrm] <;> rfl) | rfl) (by simp only [tre, tytre, Bool.and_self]) (g_law03_can_ok _ _ o36) ?_
 refine fin_cut (fun tm => tm 1 = .lit (.int .i64 x1_a1) ∧ tm 2 = .ptr 0 0 ∧ tm 5 = .lit (.int .i64 r30.1) ∧ tm 6 = .lit (.int .i64 r30.2) ∧ tm 33 = .tup [.lit (.bool r35.1), .lit (.bool r35.2)] ∧ True) (by refine ⟨e32, e33, ?_, ?_, ?_, trivial⟩ <;> first | (simp only [ua, d15, d22, d29, e32, e33, e34, nm, seval] <;> rfl) | rfl) ?_
 rintro tm ⟨e37, e38, e39, e40, e41, _⟩
 rcases o43 : (g_ref03_Upto x0_s x1_a1) with _ | r42
 ·simp only [o43, hs] at h
  exact absurd h kN
 simp only [o43, hs] at h
 simp only [vz, tyf, d15, d22, d29, e37, e38, e39, e40, e41, nm, seval]
 refine ktree (args0 := [.agg (cGCoatSheet x0_s), .lit (.int .i64 x1_a1)]) (by first | (simp only [nrm, tynrm] <;> rfl) | rfl) (by simp only [tre, tytre, Bool.and_self]) (g_ref03_Upto_ok _ _ _ o43) ?_
 refine fin_cut (fun tm => tm 1 = .lit (.int .i64 x1_a1) ∧ tm 2 = .ptr 0 0 ∧ tm 5 = .lit (.int .i64 r30.1) ∧ tm 6 = .lit (.int .i64 r30.2) ∧ tm 7 = .lit (.bool r35.1) ∧ tm 8 = .lit (.bool r35.2) ∧ tm 39 = .agg (cGCoatSheet r42) ∧ True) (by refine ⟨e37, e38, e39, e40, ?_, ?_, ?_, trivial⟩ <;> first | (simp only [ua, d15, d22, d29, e37, e38, e39, e40, e41, nm, seval] <;> rfl) | rfl) ?_
 rintro tm ⟨e44, e45, e46, e47, e48, e49, e50, _⟩
 rcases o52 : (g_law03_can r42) with _ | r51
 ·simp only [o52, hs] at h
  exact absurd h kN
 simp only [o52, hs] at h
 simp only [vz, tyf, d15, d22, d29, e44, e45, e46, e47, e48, e49, e50, nm, seval]
 refine ktree (args0 := [.agg (cGCoatSheet r42)]) (by first | (simp only [nrm, tynrm] <;> rfl) | rfl) (by simp only [tre, tytre, Bool.and_self]) (g_law03_can_ok _ _ o52) ?_
 refine fin_cut (fun tm => tm 1 = .lit (.int .i64 x1_a1) ∧ tm 2 = .ptr 0 0 ∧ tm 5 = .lit (.int .i64 r30.1) ∧ tm 6 = .lit (.int .i64 r30.2) ∧ tm 7 = .lit (.bool r35.1) ∧ tm 8 = .lit (.bool r35.2) ∧ tm 40 = .tup [.lit (.bool r51.1), .lit (.bool r51.2)] ∧ True) (by refine ⟨e44, e45, e46, e47, e48, e49, ?_, trivial⟩ <;> first | (simp only [ua, d15, d22, d29, e44, e45, e46, e47, e48, e49, e50, nm, seval] <;> rfl) | rfl) ?_
 rintro tm ⟨e53, e54, e55, e56, e57, e58, e59, _⟩
 cases d60 : (r35.2)
 ·simp only [d60, hs] at h
  try simp only [vz, tyf, d15, d22, d29, e53, e54, e55, e56, e57, e58, e59, d60, nm, seval]
  obtain rfl := kF _ h
  exact opd_bool Tryz.results8 rfl
 simp only [d60, hs] at h
 cases d61 : (r51.2)
 ·simp only [d61, hs] at h
  try simp only [vz, tyf, d15, d22, d29, e53, e54, e55, e56, e57, e58, e59, d60, d61, nm, seval]
  obtain rfl := kF _ h
  exact opd_bool Tryz.results8 rfl
 simp only [d61, hs] at h
 cases d62 : (r30.2 != 0)
 ·simp only [d62, hs] at h
  cases d63 : (r35.1 != (r30.2 == 5))
  ·simp only [d63, hs] at h
   have b64 := And.intro d15 (And.intro d22 (And.intro d29 (And.intro d60 (And.intro d61 (And.intro d62 d63)))))
   cases d65 : (r30.2 == 0)
   ·simp only [d65, hs] at h
    cases d66 : (r30.2 == 5)
    ·simp only [d66, hs] at h
     have d67 := d63
     simp only [d66] at d67
     cases d68 : (r51.1 == (decide (x1_a1 < r30.1)))
     ·simp only [d68, hs] at h
      try simp only [vz, tyf, b64, e53, e54, e55, e56, e57, e58, e59, d65, d66, d67, d68, nm, seval]
      obtain rfl := kF _ h
      exact opd_bool Tryz.results8 rfl
     simp only [d68, hs] at h
     simp only [vz, tyf, b64, e53, e54, e55, e56, e57, e58, e59, d65, d66, d67, d68, nm, seval]
     refine ktree0 g_law03_known_ok ?_
     try simp only [vz, tyf, b64, e53, e54, e55, e56, e57, e58, e59, d65, d66, d67, d68, nm, seval]
     obtain rfl := kF _ h
     exact opd_bool Tryz.results8 rfl
    simp only [d66, hs] at h
    have d69 := d63
    simp only [d66] at d69
    cases d70 : (r51.1 == true)
    ·simp only [d70, hs] at h
     try simp only [vz, tyf, b64, e53, e54, e55, e56, e57, e58, e59, d65, d66, d69, d70, nm, seval]
     obtain rfl := kF _ h
     exact opd_bool Tryz.results8 rfl
    simp only [d70, hs] at h
    simp only [vz, tyf, b64, e53, e54, e55, e56, e57, e58, e59, d65, d66, d69, d70, nm, seval]
    refine ktree0 g_law03_known_ok ?_
    try simp only [vz, tyf, b64, e53, e54, e55, e56, e57, e58, e59, d65, d66, d69, d70, nm, seval]
    obtain rfl := kF _ h
    exact opd_bool Tryz.results8 rfl
   simp only [d65, hs] at h
   rcases o72 : (g_ref03_Coat x0_s r30.1) with _ | r71
   ·simp only [o72, hs] at h
    exact absurd h kN
   simp only [o72, hs] at h
   simp only [vz, tyf, b64, e53, e54, e55, e56, e57, e58, e59, d65, nm, seval]
   refine ktree (args0 := [.agg (cGCoatSheet x0_s), .lit (.int .i64 r30.1)]) (by first | (simp only [nrm, tynrm] <;> rfl) | rfl) (by simp only [tre, tytre, Bool.and_self]) (g_ref03_Coat_ok _ _ _ o72) ?_
   refine fin_cut (fun tm => tm 1 = .lit (.int .i64 x1_a1) ∧ tm 5 = .lit (.int .i64 r30.1) ∧ tm 6 = .lit (.int .i64 r30.2) ∧ tm 9 = .lit (.bool r51.1) ∧ tm 63 = .lit (.bool false) ∧ tm 66 = .lit (.bool true) ∧ tm 69 = .lit (.bool r71) ∧ True) (by refine ⟨e53, e55, e56, ?_, ?_, ?_, ?_, trivial⟩ <;> first | (simp only [ua, b64, e53, e54, e55, e56, e57, e58, e59, d65, nm, seval] <;> rfl) | rfl) ?_
   rintro tm ⟨e73, e74, e75, e76, e77, e78, e79, _⟩
   cases d80 : (r71)
   ·simp only [d80, hs] at h
    try simp only [vz, tyf, b64, d65, e73, e74, e75, e76, e77, e78, e79, d80, nm, seval]
    obtain rfl := kF _ h
    exact opd_bool Tryz.results8 rfl
   simp only [d80, hs] at h
   cases d81 : (r30.2 == 5)
   ·simp only [d81, hs] at h
    have d82 := d63
    simp only [d81] at d82
    cases d83 : (r51.1 == (decide (x1_a1 < r30.1)))
    ·simp only [d83, hs] at h
     try simp only [vz, tyf, b64, d65, e73, e74, e75, e76, e77, e78, e79, d80, d81, d82, d83, nm, seval]
     obtain rfl := kF _ h
     exact opd_bool Tryz.results8 rfl
    simp only [d83, hs] at h
    simp only [vz, tyf, b64, d65, e73, e74, e75, e76, e77, e78, e79, d80, d81, d82, d83, nm, seval]
    refine ktree0 g_law03_known_ok ?_
    try simp only [vz, tyf, b64, d65, e73, e74, e75, e76, e77, e78, e79, d80, d81, d82, d83, nm, seval]
    obtain rfl := kF _ h
    exact opd_bool Tryz.results8 rfl
   simp only [d81, hs] at h
   have d84 := d63
   simp only [d81] at d84
   cases d85 : (r51.1 == true)
   ·simp only [d85, hs] at h
    try simp only [vz, tyf, b64, d65, e73, e74, e75, e76, e77, e78, e79, d80, d81, d84, d85, nm, seval]
    obtain rfl := kF _ h
    exact opd_bool Tryz.results8 rfl
   simp only [d85, hs] at h
   simp only [vz, tyf, b64, d65, e73, e74, e75, e76, e77, e78, e79, d80, d81, d84, d85, nm, seval]
   refine ktree0 g_law03_known_ok ?_
   try simp only [vz, tyf, b64, d65, e73, e74, e75, e76, e77, e78, e79, d80, d81, d84, d85, nm, seval]
   obtain rfl := kF _ h
   exact opd_bool Tryz.results8 rfl
  simp only [d63, hs] at h
  have b86 := And.intro d15 (And.intro d22 (And.intro d29 (And.intro d60 (And.intro d61 (And.intro d62 d63)))))
  try simp only [vz, tyf, b86, e53, e54, e55, e56, e57, e58, e59, nm, seval]
  obtain rfl := kF _ h
  exact opd_bool Tryz.results8 rfl
 simp only [d62, hs] at h
 cases d87 : (r30.2 != 5)
 ·simp only [d87, hs] at h
  have b88 := And.intro d15 (And.intro d22 (And.intro d29 (And.intro d60 (And.intro d61 (And.intro d62 d87)))))
  cases d89 : (r35.1 != (r30.2 == 5))
  ·simp only [d89, hs] at h
   cases d90 : (r30.2 == 0)
   ·simp only [d90, hs] at h
    cases d91 : (r30.2 == 5)
    ·simp only [d91, hs] at h
     have d92 := d89
     simp only [d91] at d92
     cases d93 : (r51.1 == (decide (x1_a1 < r30.1)))
     ·simp only [d93, hs] at h
      try simp only [vz, tyf, b88, e53, e54, e55, e56, e57, e58, e59, d89, d90, d91, d92, d93, nm, seval]
      obtain rfl := kF _ h
      exact opd_bool Tryz.results8 rfl
     simp only [d93, hs] at h
     simp only [vz, tyf, b88, e53, e54, e55, e56, e57, e58, e59, d89, d90, d91, d92, d93, nm, seval]
     refine ktree0 g_law03_known_ok ?_
     try simp only [vz, tyf, b88, e53, e54, e55, e56, e57, e58, e59, d89, d90, d91, d92, d93, nm, seval]
     obtain rfl := kF _ h
     exact opd_bool Tryz.results8 rfl
    simp only [d91, hs] at h
    have d94 := d89
    simp only [d91] at d94
    cases d95 : (r51.1 == true)
    ·simp only [d95, hs] at h
     try simp only [vz, tyf, b88, e53, e54, e55, e56, e57, e58, e59, d89, d90, d91, d94, d95, nm, seval]
     obtain rfl := kF _ h
     exact opd_bool Tryz.results8 rfl
    simp only [d95, hs] at h
    simp only [vz, tyf, b88, e53, e54, e55, e56, e57, e58, e59, d89, d90, d91, d94, d95, nm, seval]
    refine ktree0 g_law03_known_ok ?_
    try simp only [vz, tyf, b88, e53, e54, e55, e56, e57, e58, e59, d89, d90, d91, d94, d95, nm, seval]
    obtain rfl := kF _ h
    exact opd_bool Tryz.results8 rfl
   simp only [d90, hs] at h
   rcases o97 : (g_ref03_Coat x0_s r30.1) with _ | r96
   ·simp only [o97, hs] at h
    exact absurd h kN
   simp only [o97, hs] at h
   simp only [vz, tyf, b88, e53, e54, e55, e56, e57, e58, e59, d89, d90, nm, seval]
   refine ktree (args0 := [.agg (cGCoatSheet x0_s), .lit (.int .i64 r30.1)]) (by first | (simp only [nrm, tynrm] <;> rfl) | rfl) (by simp only [tre, tytre, Bool.and_self]) (g_ref03_Coat_ok _ _ _ o97) ?_
   refine fin_cut (fun tm => tm 1 = .lit (.int .i64 x1_a1) ∧ tm 5 = .lit (.int .i64 r30.1) ∧ tm 6 = .lit (.int .i64 r30.2) ∧ tm 9 = .lit (.bool r51.1) ∧ tm 63 = .lit (.bool false) ∧ tm 66 = .lit (.bool true) ∧ tm 69 = .lit (.bool r96) ∧ True) (by refine ⟨e53, e55, e56, ?_, ?_, ?_, ?_, trivial⟩ <;> first | (simp only [ua, b88, e53, e54, e55, e56, e57, e58, e59, d89, d90, nm, seval] <;> rfl) | rfl) ?_
   rintro tm ⟨e98, e99, e100, e101, e102, e103, e104, _⟩
   cases d105 : (r96)
   ·simp only [d105, hs] at h
    try simp only [vz, tyf, b88, d89, d90, e98, e99, e100, e101, e102, e103, e104, d105, nm, seval]
    obtain rfl := kF _ h
    exact opd_bool Tryz.results8 rfl
   simp only [d105, hs] at h
   cases d106 : (r30.2 == 5)
   ·simp only [d106, hs] at h
    have d107 := d89
    simp only [d106] at d107
    cases d108 : (r51.1 == (decide (x1_a1 < r30.1)))
    ·simp only [d108, hs] at h
     have b109 := And.intro b88 (And.intro d89 (And.intro d90 (And.intro d105 (And.intro d106 (And.intro d107 d108)))))
     try simp only [vz, tyf, b109, e98, e99, e100, e101, e102, e103, e104, nm, seval]
     obtain rfl := kF _ h
     exact opd_bool Tryz.results8 rfl
    simp only [d108, hs] at h
    have b110 := And.intro b88 (And.intro d89 (And.intro d90 (And.intro d105 (And.intro d106 (And.intro d107 d108)))))
    simp only [vz, tyf, b110, e98, e99, e100, e101, e102, e103, e104, nm, seval]
    refine ktree0 g_law03_known_ok ?_
    try simp only [vz, tyf, b110, e98, e99, e100, e101, e102, e103, e104, nm, seval]
    obtain rfl := kF _ h
    exact opd_bool Tryz.results8 rfl
   simp only [d106, hs] at h
   have d111 := d89
   simp only [d106] at d111
   cases d112 : (r51.1 == true)
   ·simp only [d112, hs] at h
    have b113 := And.intro b88 (And.intro d89 (And.intro d90 (And.intro d105 (And.intro d106 (And.intro d111 d112)))))
    try simp only [vz, tyf, b113, e98, e99, e100, e101, e102, e103, e104, nm, seval]
    obtain rfl := kF _ h
    exact opd_bool Tryz.results8 rfl
   simp only [d112, hs] at h
   have b114 := And.intro b88 (And.intro d89 (And.intro d90 (And.intro d105 (And.intro d106 (And.intro d111 d112)))))
   simp only [vz, tyf, b114, e98, e99, e100, e101, e102, e103, e104, nm, seval]
   refine ktree0 g_law03_known_ok ?_
   try simp only [vz, tyf, b114, e98, e99, e100, e101, e102, e103, e104, nm, seval]
   obtain rfl := kF _ h
   exact opd_bool Tryz.results8 rfl
  simp only [d89, hs] at h
  try simp only [vz, tyf, b88, e53, e54, e55, e56, e57, e58, e59, d89, nm, seval]
  obtain rfl := kF _ h
  exact opd_bool Tryz.results8 rfl
 simp only [d87, hs] at h
 have b115 := And.intro d15 (And.intro d22 (And.intro d29 (And.intro d60 (And.intro d61 (And.intro d62 d87)))))
 try simp only [vz, tyf, b115, e53, e54, e55, e56, e57, e58, e59, nm, seval]
 obtain rfl := kF _ h
 exact opd_bool Tryz.results8 rfl
end Go.V
end
section
namespace Go.V
open Go
theorem short_eq' (s : GCoatSheet) : ∃ b, g_law03_short s = some b := by
 unfold g_law03_short
 cases decide ((s.Dry.length : Int) ≤ 14) with
 | false => exact ⟨_, rfl⟩
 | true =>
 cases decide ((s.Work.length : Int) ≤ 16) with
 | false => exact ⟨_, rfl⟩
 | true => exact ⟨_, rfl⟩
theorem rCoat_eq {s : GCoatSheet} (hs : OkS s) (n : Int) : g_ref03_Coat s n = some (inB 0 ((s.Coats.length : Int) - 1) n) := by
 have := lenOk_lt hs.c
 unfold g_ref03_Coat
 rw [wrap_eq (by omega) (by omega), rin_eq]
 rfl
theorem upto_eq {s : GCoatSheet} (h : ShOk s) {n : Nat} (hn : n < s.Coats.length) : g_ref03_Upto s (n : Int) = some (upTo s (n + 1)) := by
 have hc := h.c
 have hsl : sliceO s.Coats 0 ((n : Int) + 1) = some (s.Coats.take (n + 1)) := by
  unfold sliceO
  rw [if_pos (by omega)]
  simp
 unfold g_ref03_Upto
 rw [wrap_eq (by omega) (by omega), hsl, Option.bind_some]
 have h1 : neB (s.Coats.take (n + 1)) = true := neB_of (by rw [List.length_take]; omega)
 have h2 : roomOk 16 (List.length ([] ++ s.Coats.take (n + 1))) = true := by
  simp only [roomOk, List.nil_append, List.length_take, decide_eq_true_eq]
  omega
 rw [h1, h2]
 simp only [cond_true, List.nil_append]
 rfl
theorem upTo_sheet {s : GCoatSheet} (h1 : sheetB s = true) {n : Nat} (hn : n < s.Coats.length) : sheetB (upTo s (n + 1)) = true := by
 unfold sheetB at h1 ⊢
 simp only [Bool.and_eq_true, inB_iff, List.all_eq_true] at h1 ⊢
 refine ⟨h1.1, h1.2.1, ?_, fun c hc => h1.2.2.2 c (List.mem_of_mem_take hc)⟩
 show 1 ≤ (((s.Coats.take (n + 1)).length : Nat) : Int) ∧ (((s.Coats.take (n + 1)).length : Nat) : Int) ≤ 5
 rw [List.length_take]
 omega
theorem upTo_ok {s : GCoatSheet} (hs : OkS s) (m : Nat) : OkS (upTo s m) := ⟨hs.d, hs.w, by
 have := lenOk_lt hs.c
 refine lenOk_of ?_
 show (s.Coats.take m).length < _
 rw [List.length_take]
 omega⟩
theorem upTo_all {s : GCoatSheet} : upTo s s.Coats.length = s := by
 unfold upTo
 rw [List.take_of_length_le (Nat.le_refl _)]
theorem CoatReached_true (s : GCoatSheet) (o : Int) (h : lenOk s.Dry = true ∧ lenOk s.Work = true ∧ lenOk s.Coats = true) : g_law03_CoatReached s o = some true := by
 have hs : OkS s := ⟨h.1, h.2.1, h.2.2⟩
 unfold g_law03_CoatReached
 obtain ⟨b, hb⟩ := short_eq' s
 rw [hb, rSheet_eq hs, rCoat_eq hs]
 simp only [Option.bind_some]
 cases b with
 | false => rfl
 | true =>
 cases h1 : sheetB s with
 | false => rfl
 | true =>
 cases h2 : inB 0 ((s.Coats.length : Int) - 1) o with
 | false => rfl
 | true =>
 have hS := ShOk.of h1
 have hc := hS.c
 rw [inB_iff] at h2
 obtain ⟨k, rfl⟩ : ∃ k : Nat, o = (k : Int) := ⟨o.toNat, by omega⟩
 have hk : k < s.Coats.length := by omega
 obtain ⟨b1, e1, n1⟩ := can_eq hs h1
 obtain ⟨b2, e2, n2⟩ := can_eq (upTo_ok hs (k + 1)) (upTo_sheet h1 hk)
 rw [e1, upto_eq hS hk]
 simp only [cond_true, Option.bind_some, e2]
 have hall : NEP s ↔ NEP (upTo s s.Coats.length) := by rw [upTo_all]
 rcases stuck_eq hs h1 with ⟨n, e3, h3, h4, h5⟩ | ⟨e3, h5⟩
 ·rw [e3]
  simp only [Option.bind_some]
  have hb1 : b1 = false := by
   cases b1 with
   | false => rfl
   | true => exact absurd (NEP_down hS (by omega) (by omega) (hall.1 (n1.1 rfl))) h4
  have hb2 : b2 = decide ((k : Int) < (n : Int)) := by
   rw [Bool.eq_iff_iff, n2, decide_eq_true_eq]
   constructor
   ·intro hn
    rcases Nat.lt_or_ge k n with hlt | hge
    ·omega
    ·exact absurd (NEP_down hS (by omega) (by omega) hn) h4
   ·intro hlt
    exact h5 k (by omega)
  have hin : inB 0 ((s.Coats.length : Int) - 1) (n : Int) = true := inB_iff.2 (by omega)
  rw [hb1, hb2, rCoat_eq hs, hin]
  cases decide ((k : Int) < (n : Int)) <;> rfl
 ·rw [e3]
  simp only [Option.bind_some]
  have hb1 : b1 = true := n1.2 (hall.2 (by
   have := h5 (s.Coats.length - 1) (by omega)
   rw [show s.Coats.length - 1 + 1 = s.Coats.length by omega] at this
   exact this))
  have hb2 : b2 = true := n2.2 (h5 k hk)
  rw [hb1, hb2]
  rfl
end Go.V
end
