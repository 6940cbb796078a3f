/- Part of a proof: a logic of values by content, lifted functions, what follows. -/
import Derived.Test.YtgdgkkloccpbnaaGreatDoorUbc
import Derived.Test.YtgdgkkloccpbnaaGreatDoorUbf
import Derived.Test.YtgdgkkloccpbnaaGreatDoorUbn
import Derived.Test.YtgdgkkloccpbnaaGreatDoorUbk
import Derived.Test.YtgdgkkloccpbnaaGreatDoorUbe
import Derived.Test.YtgdgkkloccpbnaaGreatDoorUbl
set_option linter.all false
set_option maxRecDepth 4000
set_option maxHeartbeats 40000000
section
set_option maxRecDepth 100000
namespace Go.V
open Go Go.Proofs
def Ok_GCoatSheet (x : GCoatSheet) : Prop := lenOk x.Dry = true ∧ lenOk x.Work = true ∧ lenOk x.Coats = true
section
variable {P : Program} (hu3 : P.underlying 3 = some (.int .i64)) {f56 : Array Field} (hu56 : P.underlying 56 = some (.struct f56)) (ht56 : f56.toList.map Field.type = [3, 3]) (hu22 : P.underlying 22 = some (.slice 56)) (hu23 : P.underlying 23 = some (.slice 3)) {f59 : Array Field} (hu59 : P.underlying 59 = some (.struct f59)) (ht59 : f59.toList.map Field.type = [3, 3]) (hu24 : P.underlying 24 = some (.slice 59)) {f26 : Array Field} (hu26 : P.underlying 26 = some (.struct f26)) (ht26 : f26.toList.map Field.type = [22, 23, 24])
include hu3 hu56 ht56 hu22 hu23 hu59 ht59 hu24 hu26 ht26
theorem gd_3 {n : Nat} : Dec P (n + 1) 3 eI (fun _ => True) := dec_int hu3
theorem gd_56 {n : Nat} : Dec P (n + 2) 56 cGSpan (fun _ => True) := by
 intro xs h
 obtain ⟨yss, hf, rfl⟩ := dec_struct (n := n + 1) (ts := [3, 3]) hu56 ht56 h
 match yss, hf with
 | [y0, y1], ⟨h0, h1, _⟩ =>
  obtain ⟨x0, r0, e0⟩ := gd_3 hu3 hu56 ht56 hu22 hu23 hu59 ht59 hu24 hu26 ht26 (n := n + 0) _ h0
  obtain ⟨x1, r1, e1⟩ := gd_3 hu3 hu56 ht56 hu22 hu23 hu59 ht59 hu24 hu26 ht26 (n := n + 0) _ h1
  exact ⟨⟨x0, x1⟩, trivial, by simp only [List.flatten_cons, List.flatten_nil, List.append_nil, normL_append, e0, e1, eI, eU8, eB, eS, eSl, cGSpan_eq, List.cons_append, List.nil_append]⟩
theorem gd_22 {n : Nat} : Dec P (n + 3) 22 (eSl cGSpan) (fun l => lenOk l = true ∧ ∀ x ∈ l, True) := dec_slice hu22 (gd_56 hu3 hu56 ht56 hu22 hu23 hu59 ht59 hu24 hu26 ht26 (n := n))
theorem gd_23 {n : Nat} : Dec P (n + 2) 23 (eSl eI) (fun l => lenOk l = true ∧ ∀ x ∈ l, True) := dec_slice hu23 (gd_3 hu3 hu56 ht56 hu22 hu23 hu59 ht59 hu24 hu26 ht26 (n := n))
theorem gd_59 {n : Nat} : Dec P (n + 2) 59 cGCoatCoat (fun _ => True) := by
 intro xs h
 obtain ⟨yss, hf, rfl⟩ := dec_struct (n := n + 1) (ts := [3, 3]) hu59 ht59 h
 match yss, hf with
 | [y0, y1], ⟨h0, h1, _⟩ =>
  obtain ⟨x0, r0, e0⟩ := gd_3 hu3 hu56 ht56 hu22 hu23 hu59 ht59 hu24 hu26 ht26 (n := n + 0) _ h0
  obtain ⟨x1, r1, e1⟩ := gd_3 hu3 hu56 ht56 hu22 hu23 hu59 ht59 hu24 hu26 ht26 (n := n + 0) _ h1
  exact ⟨⟨x0, x1⟩, trivial, by simp only [List.flatten_cons, List.flatten_nil, List.append_nil, normL_append, e0, e1, eI, eU8, eB, eS, eSl, cGCoatCoat_eq, List.cons_append, List.nil_append]⟩
theorem gd_24 {n : Nat} : Dec P (n + 3) 24 (eSl cGCoatCoat) (fun l => lenOk l = true ∧ ∀ x ∈ l, True) := dec_slice hu24 (gd_59 hu3 hu56 ht56 hu22 hu23 hu59 ht59 hu24 hu26 ht26 (n := n))
theorem gd_26 {n : Nat} : Dec P (n + 4) 26 cGCoatSheet (Ok_GCoatSheet) := by
 intro xs h
 obtain ⟨yss, hf, rfl⟩ := dec_struct (n := n + 3) (ts := [22, 23, 24]) hu26 ht26 h
 match yss, hf with
 | [y0, y1, y2], ⟨h0, h1, h2, _⟩ =>
  obtain ⟨x0, r0, e0⟩ := gd_22 hu3 hu56 ht56 hu22 hu23 hu59 ht59 hu24 hu26 ht26 (n := n + 0) _ h0
  obtain ⟨x1, r1, e1⟩ := gd_23 hu3 hu56 ht56 hu22 hu23 hu59 ht59 hu24 hu26 ht26 (n := n + 1) _ h1
  obtain ⟨x2, r2, e2⟩ := gd_24 hu3 hu56 ht56 hu22 hu23 hu59 ht59 hu24 hu26 ht26 (n := n + 0) _ h2
  exact ⟨⟨x0, x1, x2⟩, ⟨r0.1, r1.1, r2.1⟩, by simp only [List.flatten_cons, List.flatten_nil, List.append_nil, normL_append, e0, e1, e2, eI, eU8, eB, eS, eSl, cGCoatSheet_eq, List.cons_append, List.nil_append]⟩
end
theorem dec_26 {n : Nat} : Dec Tryz.prog (n + 4) 26 cGCoatSheet (Ok_GCoatSheet) := gd_26 Tryz.underlying3 Tryz.underlying56 (by kernel_rfl) Tryz.underlying22 Tryz.underlying23 Tryz.underlying59 (by kernel_rfl) Tryz.underlying24 Tryz.underlying26 (by kernel_rfl)
end Go.V
end
section
namespace Go.V
open Go Go.Proofs
def g_law03_CoatFirsts (x0_s : GCoatSheet) : Option (Bool) := Option.bind (g_law03_short x0_s) (fun r1 => cond (r1) (Option.bind (g_coat_First x0_s) (fun r2 => Option.bind (g_coat_Count x0_s) (fun r3 => Option.bind (g_ref03_Sheet x0_s) (fun r4 => cond (r4) (Option.bind (g_ref03_All x0_s) (fun r5 => cond (r3.2 != 0) (some false) (cond (r3.1 != (List.length r5 : Int)) (some false) (cond ((List.length r5 : Int) == 0) (cond (r2.2 == 5) (cond ((List.length r2.1 : Int) == 0) (some true) (some false)) (some false)) (cond (r2.2 == 0) (Option.bind (getI r5 0) (fun x6 => Option.bind (g_ref01_Same r2.1 x6) (fun r7 => cond (r7) (some true) (some false)))) (some false)))))) (cond (r2.2 == 2) (cond ((List.length r2.1 : Int) == 0) (cond (r3.2 == 2) (cond (r3.1 == 0) (some true) (some false)) (some false)) (some false)) (some false)))))) (some true))
theorem g_law03_CoatFirsts_ok (x0_s : GCoatSheet) (R : Bool) (h : g_law03_CoatFirsts x0_s = some R) : VPure Tryz.prog G0 3 [.agg (cGCoatSheet x0_s)] (.tree (.lit (.bool R))) := by
 refine VPure.runR mixed Tryz.call3 Tryz.func3 rfl (by simp [Tryz.ntmps3]; kernel_rfl) ?_
 obtain ⟨KF, h, kF, kN⟩ := fun_intro h
 simp only [g_law03_CoatFirsts] at h
 rcases o9 : (g_law03_short x0_s) with _ | r8
 ·simp only [o9, hs] at h
  exact absurd h kN
 simp only [o9, hs] at h
 simp only [vz, tyf, nm, seval]
 refine ktree (args0 := [.agg (cGCoatSheet x0_s)]) (by first | (simp only [nrm, tynrm] <;> rfl) | rfl) (by simp only [tre, tytre, Bool.and_self]) (g_law03_short_ok _ _ o9) ?_
 refine fin_cut (fun tm => tm 1 = .ptr 0 0 ∧ tm 9 = .lit (.bool r8) ∧ True) (by refine ⟨?_, ?_, trivial⟩ <;> first | (simp only [ua, nm, seval] <;> rfl) | rfl) ?_
 rintro tm ⟨e10, e11, _⟩
 cases d12 : (r8)
 ·simp only [d12, hs] at h
  simp only [vz, tyf, e10, e11, d12, nm, seval]
  refine ktree0 g_law03_known_ok ?_
  try simp only [vz, tyf, e10, e11, d12, nm, seval]
  obtain rfl := kF _ h
  exact opd_bool Tryz.results3 rfl
 simp only [d12, hs] at h
 rcases o14 : (g_coat_First x0_s) with _ | r13
 ·simp only [o14, hs] at h
  exact absurd h kN
 simp only [o14, hs] at h
 simp only [vz, tyf, e10, e11, d12, nm, seval]
 refine ktree (args0 := [.agg (cGCoatSheet x0_s)]) (by first | (simp only [nrm, tynrm] <;> rfl) | rfl) (by simp only [tre, tytre, Bool.and_self]) (g_coat_First_ok _ _ o14) ?_
 refine fin_cut (fun tm => tm 1 = .ptr 0 0 ∧ tm 14 = .tup [.sl (cellsL eI r13.1) (List.length r13.1) false, .lit (.int .i64 r13.2)] ∧ True) (by refine ⟨e10, ?_, trivial⟩ <;> first | (simp only [ua, e10, e11, d12, nm, seval] <;> rfl) | rfl) ?_
 rintro tm ⟨e15, e16, _⟩
 rcases o18 : (g_coat_Count x0_s) with _ | r17
 ·simp only [o18, hs] at h
  exact absurd h kN
 simp only [o18, hs] at h
 simp only [vz, tyf, d12, e15, e16, nm, seval]
 refine ktree (args0 := [.agg (cGCoatSheet x0_s)]) (by first | (simp only [nrm, tynrm] <;> rfl) | rfl) (by simp only [tre, tytre, Bool.and_self]) (g_coat_Count_ok _ _ o18) ?_
 refine fin_cut (fun tm => tm 1 = .ptr 0 0 ∧ tm 3 = .sl (cellsL eI r13.1) (List.length r13.1) false ∧ tm 4 = .lit (.int .i64 r13.2) ∧ tm 19 = .tup [.lit (.int .i64 r17.1), .lit (.int .i64 r17.2)] ∧ True) (by refine ⟨e15, ?_, ?_, ?_, trivial⟩ <;> first | (simp only [ua, d12, e15, e16, nm, seval] <;> rfl) | rfl) ?_
 rintro tm ⟨e19, e20, e21, e22, _⟩
 rcases o24 : (g_ref03_Sheet x0_s) with _ | r23
 ·simp only [o24, hs] at h
  exact absurd h kN
 simp only [o24, hs] at h
 simp only [vz, tyf, d12, e19, e20, e21, e22, nm, seval]
 refine ktree (args0 := [.agg (cGCoatSheet x0_s)]) (by first | (simp only [nrm, tynrm] <;> rfl) | rfl) (by simp only [tre, tytre, Bool.and_self]) (g_ref03_Sheet_ok _ _ o24) ?_
 refine fin_cut (fun tm => tm 1 = .ptr 0 0 ∧ tm 3 = .sl (cellsL eI r13.1) (List.length r13.1) false ∧ tm 4 = .lit (.int .i64 r13.2) ∧ tm 5 = .lit (.int .i64 r17.1) ∧ tm 6 = .lit (.int .i64 r17.2) ∧ tm 23 = .lit (.bool r23) ∧ True) (by refine ⟨e19, e20, e21, ?_, ?_, ?_, trivial⟩ <;> first | (simp only [ua, d12, e19, e20, e21, e22, nm, seval] <;> rfl) | rfl) ?_
 rintro tm ⟨e25, e26, e27, e28, e29, e30, _⟩
 cases d31 : (r23)
 ·simp only [d31, hs] at h
  cases d32 : (r13.2 == 2)
  ·simp only [d32, hs] at h
   try simp only [vz, tyf, d12, e25, e26, e27, e28, e29, e30, d31, d32, nm, seval]
   obtain rfl := kF _ h
   exact opd_bool Tryz.results3 rfl
  simp only [d32, hs] at h
  cases d33 : ((List.length r13.1 : Int) == 0)
  ·simp only [d33, hs] at h
   try simp only [vz, tyf, d12, e25, e26, e27, e28, e29, e30, d31, d32, d33, nm, seval]
   obtain rfl := kF _ h
   exact opd_bool Tryz.results3 rfl
  simp only [d33, hs] at h
  cases d34 : (r17.2 == 2)
  ·simp only [d34, hs] at h
   try simp only [vz, tyf, d12, e25, e26, e27, e28, e29, e30, d31, d32, d33, d34, nm, seval]
   obtain rfl := kF _ h
   exact opd_bool Tryz.results3 rfl
  simp only [d34, hs] at h
  cases d35 : (r17.1 == 0)
  ·simp only [d35, hs] at h
   try simp only [vz, tyf, d12, e25, e26, e27, e28, e29, e30, d31, d32, d33, d34, d35, nm, seval]
   obtain rfl := kF _ h
   exact opd_bool Tryz.results3 rfl
  simp only [d35, hs] at h
  simp only [vz, tyf, d12, e25, e26, e27, e28, e29, e30, d31, d32, d33, d34, d35, nm, seval]
  refine ktree0 g_law03_known_ok ?_
  try simp only [vz, tyf, d12, e25, e26, e27, e28, e29, e30, d31, d32, d33, d34, d35, nm, seval]
  obtain rfl := kF _ h
  exact opd_bool Tryz.results3 rfl
 simp only [d31, hs] at h
 rcases o37 : (g_ref03_All x0_s) with _ | r36
 ·simp only [o37, hs] at h
  exact absurd h kN
 simp only [o37, hs] at h
 simp only [vz, tyf, d12, e25, e26, e27, e28, e29, e30, d31, nm, seval]
 refine ktree (args0 := [.agg (cGCoatSheet x0_s)]) (by first | (simp only [nrm, tynrm] <;> rfl) | rfl) (by simp only [tre, tytre, Bool.and_self]) (g_ref03_All_ok _ _ o37) ?_
 refine fin_cut (fun tm => tm 3 = .sl (cellsL eI r13.1) (List.length r13.1) false ∧ tm 4 = .lit (.int .i64 r13.2) ∧ tm 5 = .lit (.int .i64 r17.1) ∧ tm 6 = .lit (.int .i64 r17.2) ∧ tm 44 = .sl (cellsL (eSl eI) r36) (List.length r36) false ∧ True) (by refine ⟨e26, e27, e28, e29, ?_, trivial⟩ <;> first | (simp only [ua, d12, e25, e26, e27, e28, e29, e30, d31, nm, seval] <;> rfl) | rfl) ?_
 rintro tm ⟨e38, e39, e40, e41, e42, _⟩
 cases d43 : (r17.2 != 0)
 ·simp only [d43, hs] at h
  cases d44 : (r17.1 != (List.length r36 : Int))
  ·simp only [d44, hs] at h
   cases d45 : ((List.length r36 : Int) == 0)
   ·simp only [d45, hs] at h
    cases d46 : (r13.2 == 0)
    ·simp only [d46, hs] at h
     try simp only [vz, tyf, d12, d31, e38, e39, e40, e41, e42, d43, d44, d45, d46, nm, seval]
     obtain rfl := kF _ h
     exact opd_bool Tryz.results3 rfl
    simp only [d46, hs] at h
    rcases o48 : (getI r36 0) with _ | x47
    ·simp only [o48, hs] at h
     exact absurd h kN
    simp only [o48, hs] at h
    rcases o50 : (g_ref01_Same r13.1 x47) with _ | r49
    ·simp only [o50, hs] at h
     exact absurd h kN
    simp only [o50, hs] at h
    simp only [vz, tyf, d12, d31, e38, e39, e40, e41, e42, d43, d44, d45, d46, (ix34 o48), nm, seval]
    refine ktree (args0 := [.sl (cellsL eI r13.1) (List.length r13.1) false, .sl (cellsL eI x47) (List.length x47) false]) (by first | (simp only [nrm, tynrm] <;> rfl) | rfl) (by simp only [tre, tytre, Bool.and_self]) (g_ref01_Same_ok _ _ _ o50) ?_
    refine fin_cut (fun tm => tm 68 = .lit (.bool true) ∧ tm 73 = .lit (.bool r49) ∧ True) (by refine ⟨?_, ?_, trivial⟩ <;> first | (simp only [ua, d12, d31, e38, e39, e40, e41, e42, d43, d44, d45, d46, nm, seval] <;> rfl) | rfl) ?_
    rintro tm ⟨e51, e52, _⟩
    cases d53 : (r49)
    ·simp only [d53, hs] at h
     have b54 := And.intro d12 (And.intro d31 (And.intro d43 (And.intro d44 (And.intro d45 (And.intro d46 d53)))))
     try simp only [vz, tyf, b54, (ix34 o48), e51, e52, nm, seval]
     obtain rfl := kF _ h
     exact opd_bool Tryz.results3 rfl
    simp only [d53, hs] at h
    have b55 := And.intro d12 (And.intro d31 (And.intro d43 (And.intro d44 (And.intro d45 (And.intro d46 d53)))))
    simp only [vz, tyf, b55, (ix34 o48), e51, e52, nm, seval]
    refine ktree0 g_law03_known_ok ?_
    try simp only [vz, tyf, b55, (ix34 o48), e51, e52, nm, seval]
    obtain rfl := kF _ h
    exact opd_bool Tryz.results3 rfl
   simp only [d45, hs] at h
   cases d56 : (r13.2 == 5)
   ·simp only [d56, hs] at h
    try simp only [vz, tyf, d12, d31, e38, e39, e40, e41, e42, d43, d44, d45, d56, nm, seval]
    obtain rfl := kF _ h
    exact opd_bool Tryz.results3 rfl
   simp only [d56, hs] at h
   cases d57 : ((List.length r13.1 : Int) == 0)
   ·simp only [d57, hs] at h
    have b58 := And.intro d12 (And.intro d31 (And.intro d43 (And.intro d44 (And.intro d45 (And.intro d56 d57)))))
    try simp only [vz, tyf, b58, e38, e39, e40, e41, e42, nm, seval]
    obtain rfl := kF _ h
    exact opd_bool Tryz.results3 rfl
   simp only [d57, hs] at h
   have b59 := And.intro d12 (And.intro d31 (And.intro d43 (And.intro d44 (And.intro d45 (And.intro d56 d57)))))
   simp only [vz, tyf, b59, e38, e39, e40, e41, e42, nm, seval]
   refine ktree0 g_law03_known_ok ?_
   try simp only [vz, tyf, b59, e38, e39, e40, e41, e42, nm, seval]
   obtain rfl := kF _ h
   exact opd_bool Tryz.results3 rfl
  simp only [d44, hs] at h
  try simp only [vz, tyf, d12, d31, e38, e39, e40, e41, e42, d43, d44, nm, seval]
  obtain rfl := kF _ h
  exact opd_bool Tryz.results3 rfl
 simp only [d43, hs] at h
 try simp only [vz, tyf, d12, d31, e38, e39, e40, e41, e42, d43, nm, seval]
 obtain rfl := kF _ h
 exact opd_bool Tryz.results3 rfl
end Go.V
end
section
namespace Go.V
open Go
theorem CoatFirsts_true (s : GCoatSheet) (h : lenOk s.Dry = true ∧ lenOk s.Work = true ∧ lenOk s.Coats = true) : g_law03_CoatFirsts s = some true := by
 have hs : OkS s := ⟨h.1, h.2.1, h.2.2⟩
 unfold g_law03_CoatFirsts
 obtain ⟨b, hb⟩ := short_eq' s
 rw [hb, rSheet_eq hs]
 simp only [Option.bind_some]
 cases b with
 | false => rfl
 | true =>
 simp only [cond_true]
 cases h1 : sheetB s with
 | false =>
  have e1 : g_coat_First s = some ([], 2) := by unfold g_coat_First; rw [isSheet_eq hs, h1]; rfl
  have e2 : g_coat_Count s = some (0, 2) := by unfold g_coat_Count; rw [isSheet_eq hs, h1]; rfl
  rw [e1, e2]
  rfl
 | true =>
  have hS := ShOk.of h1
  obtain ⟨L, hP, e1⟩ := first_eq hs h1
  rw [e1, count_eq hs h1 hP, rAll_eq hS, allP_plans hS hP.mem hP.pw]
  simp only [Option.bind_some, cond_true]
  cases L with
  | nil => rfl
  | cons q L =>
   have hq := VP.of h1 ((hP.mem q).1 (by simp)).1
   have hz : (((q :: L).length : Int) == 0) = false := by rw [beq_eq_false_iff_ne, List.length_cons]; omega
   have hsame : g_ref01_Same (headE (q :: L)).1 q = some true := by
    show g_ref01_Same q q = some true
    rw [same_eq q q hq.pl, beq_self_eq_true]
   rw [hz, show getI (q :: L) 0 = some q from rfl]
   simp only [bne_self_eq_false, cond_false, Option.bind_some, hsame, cond_true]
   rfl
end Go.V
end
