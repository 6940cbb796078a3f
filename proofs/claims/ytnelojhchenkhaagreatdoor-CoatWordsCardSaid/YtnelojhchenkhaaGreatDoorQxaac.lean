/- Part of a proof: a logic of values by content, lifted functions, what follows. -/
import Derived.Test.YtnelojhchenkhaaGreatDoorQbc
set_option linter.all false
set_option maxRecDepth 4000
set_option maxHeartbeats 4000000
section
set_option maxRecDepth 100000
namespace Go.V
open Go Go.Proofs
def Ok_GCoatSheet (x : GCoatSheet) : Prop := lenOk x.Dry = true ∧ lenOk x.Work = true ∧ lenOk x.Coats = true
section
variable {P : Program} (hu3 : P.underlying 3 = some (.int .i64)) {f89 : Array Field} (hu89 : P.underlying 89 = some (.struct f89)) (ht89 : f89.toList.map Field.type = [3, 3]) (hu22 : P.underlying 22 = some (.slice 89)) (hu23 : P.underlying 23 = some (.slice 3)) {f53 : Array Field} (hu53 : P.underlying 53 = some (.struct f53)) (ht53 : f53.toList.map Field.type = [3, 3]) (hu24 : P.underlying 24 = some (.slice 53)) {f26 : Array Field} (hu26 : P.underlying 26 = some (.struct f26)) (ht26 : f26.toList.map Field.type = [22, 23, 24])
include hu3 hu89 ht89 hu22 hu23 hu53 ht53 hu24 hu26 ht26
theorem gd_3 {n : Nat} : Dec P (n + 1) 3 eI (fun _ => True) := dec_int hu3
theorem gd_89 {n : Nat} : Dec P (n + 2) 89 cGSpan (fun _ => True) := by
 intro xs h
 obtain ⟨yss, hf, rfl⟩ := dec_struct (n := n + 1) (ts := [3, 3]) hu89 ht89 h
 match yss, hf with
 | [y0, y1], ⟨h0, h1, _⟩ =>
  obtain ⟨x0, r0, e0⟩ := gd_3 hu3 hu89 ht89 hu22 hu23 hu53 ht53 hu24 hu26 ht26 (n := n + 0) _ h0
  obtain ⟨x1, r1, e1⟩ := gd_3 hu3 hu89 ht89 hu22 hu23 hu53 ht53 hu24 hu26 ht26 (n := n + 0) _ h1
  exact ⟨⟨x0, x1⟩, trivial, by simp only [List.flatten_cons, List.flatten_nil, List.append_nil, normL_append, e0, e1, eI, eU8, eB, eS, eSl, cGSpan_eq, List.cons_append, List.nil_append]⟩
theorem gd_22 {n : Nat} : Dec P (n + 3) 22 (eSl cGSpan) (fun l => lenOk l = true ∧ ∀ x ∈ l, True) := dec_slice hu22 (gd_89 hu3 hu89 ht89 hu22 hu23 hu53 ht53 hu24 hu26 ht26 (n := n))
theorem gd_23 {n : Nat} : Dec P (n + 2) 23 (eSl eI) (fun l => lenOk l = true ∧ ∀ x ∈ l, True) := dec_slice hu23 (gd_3 hu3 hu89 ht89 hu22 hu23 hu53 ht53 hu24 hu26 ht26 (n := n))
theorem gd_53 {n : Nat} : Dec P (n + 2) 53 cGCoatCoat (fun _ => True) := by
 intro xs h
 obtain ⟨yss, hf, rfl⟩ := dec_struct (n := n + 1) (ts := [3, 3]) hu53 ht53 h
 match yss, hf with
 | [y0, y1], ⟨h0, h1, _⟩ =>
  obtain ⟨x0, r0, e0⟩ := gd_3 hu3 hu89 ht89 hu22 hu23 hu53 ht53 hu24 hu26 ht26 (n := n + 0) _ h0
  obtain ⟨x1, r1, e1⟩ := gd_3 hu3 hu89 ht89 hu22 hu23 hu53 ht53 hu24 hu26 ht26 (n := n + 0) _ h1
  exact ⟨⟨x0, x1⟩, trivial, by simp only [List.flatten_cons, List.flatten_nil, List.append_nil, normL_append, e0, e1, eI, eU8, eB, eS, eSl, cGCoatCoat_eq, List.cons_append, List.nil_append]⟩
theorem gd_24 {n : Nat} : Dec P (n + 3) 24 (eSl cGCoatCoat) (fun l => lenOk l = true ∧ ∀ x ∈ l, True) := dec_slice hu24 (gd_53 hu3 hu89 ht89 hu22 hu23 hu53 ht53 hu24 hu26 ht26 (n := n))
theorem gd_26 {n : Nat} : Dec P (n + 4) 26 cGCoatSheet (Ok_GCoatSheet) := by
 intro xs h
 obtain ⟨yss, hf, rfl⟩ := dec_struct (n := n + 3) (ts := [22, 23, 24]) hu26 ht26 h
 match yss, hf with
 | [y0, y1, y2], ⟨h0, h1, h2, _⟩ =>
  obtain ⟨x0, r0, e0⟩ := gd_22 hu3 hu89 ht89 hu22 hu23 hu53 ht53 hu24 hu26 ht26 (n := n + 0) _ h0
  obtain ⟨x1, r1, e1⟩ := gd_23 hu3 hu89 ht89 hu22 hu23 hu53 ht53 hu24 hu26 ht26 (n := n + 1) _ h1
  obtain ⟨x2, r2, e2⟩ := gd_24 hu3 hu89 ht89 hu22 hu23 hu53 ht53 hu24 hu26 ht26 (n := n + 0) _ h2
  exact ⟨⟨x0, x1, x2⟩, ⟨r0.1, r1.1, r2.1⟩, by simp only [List.flatten_cons, List.flatten_nil, List.append_nil, normL_append, e0, e1, e2, eI, eU8, eB, eS, eSl, cGCoatSheet_eq, List.cons_append, List.nil_append]⟩
end
theorem dec_3 {n : Nat} : Dec Tryz.prog (n + 1) 3 eI (fun _ => True) := gd_3 Tryz.underlying3 Tryz.underlying89 (by kernel_rfl) Tryz.underlying22 Tryz.underlying23 Tryz.underlying53 (by kernel_rfl) Tryz.underlying24 Tryz.underlying26 (by kernel_rfl)
theorem dec_23 {n : Nat} : Dec Tryz.prog (n + 2) 23 (eSl eI) (fun l => lenOk l = true ∧ ∀ x ∈ l, True) := gd_23 Tryz.underlying3 Tryz.underlying89 (by kernel_rfl) Tryz.underlying22 Tryz.underlying23 Tryz.underlying53 (by kernel_rfl) Tryz.underlying24 Tryz.underlying26 (by kernel_rfl)
theorem dec_26 {n : Nat} : Dec Tryz.prog (n + 4) 26 cGCoatSheet (Ok_GCoatSheet) := gd_26 Tryz.underlying3 Tryz.underlying89 (by kernel_rfl) Tryz.underlying22 Tryz.underlying23 Tryz.underlying53 (by kernel_rfl) Tryz.underlying24 Tryz.underlying26 (by kernel_rfl)
end Go.V
end
