/- Part of a proof: a logic of values by content, lifted functions, what follows. -/
import Derived.Test.YtekhjalgmlflpaaGreatDoorQbf
import Derived.Test.YtekhjalgmlflpaaGreatDoorQbg
set_option linter.all false
set_option maxRecDepth 4000
set_option maxHeartbeats 40000000
section
set_option maxRecDepth 100000
namespace Go.V
open Go Go.Proofs
def zgn (x : GTintSheet) : Prop := lenOk x.Tins = true
section
variable {P : Program} (hu3 : P.underlying 3 = some (.int .i64)) (hu22 : P.underlying 22 = some (.array 3 3)) {f24 : Array Field} (hu24 : P.underlying 24 = some (.struct f24)) (ht24 : f24.toList.map Field.type = [3, 3]) (hu25 : P.underlying 25 = some (.array 3 24)) {f94 : Array Field} (hu94 : P.underlying 94 = some (.struct f94)) (ht94 : f94.toList.map Field.type = [25]) (hu26 : P.underlying 26 = some (.slice 94)) {f28 : Array Field} (hu28 : P.underlying 28 = some (.struct f28)) (ht28 : f28.toList.map Field.type = [22, 25, 24, 3, 26]) (hu29 : P.underlying 29 = some (.slice 3))
include hu3 hu22 hu24 ht24 hu25 hu94 ht94 hu26 hu28 ht28 hu29
theorem gd_3 {n : Nat} : Dec P (n + 1) 3 eI (fun _ => True) := zaii hu3
theorem gd_22 {n : Nat} : Dec P (n + 2) 22 cGA3Int (fun _ => True) := by
 intro xs h
 obtain ⟨yss, hf, rfl⟩ := zni (n := n + 1) (ts := [3, 3, 3]) hu22 rfl h
 match yss, hf with
 | [y0, y1, y2], ⟨h0, h1, h2, _⟩ =>
  obtain ⟨x0, r0, e0⟩ := gd_3 hu3 hu22 hu24 ht24 hu25 hu94 ht94 hu26 hu28 ht28 hu29 (n := n + 0) _ h0
  obtain ⟨x1, r1, e1⟩ := gd_3 hu3 hu22 hu24 ht24 hu25 hu94 ht94 hu26 hu28 ht28 hu29 (n := n + 0) _ h1
  obtain ⟨x2, r2, e2⟩ := gd_3 hu3 hu22 hu24 ht24 hu25 hu94 ht94 hu26 hu28 ht28 hu29 (n := n + 0) _ h2
  exact ⟨⟨x0, x1, x2⟩, trivial, by simp only [List.flatten_cons, List.flatten_nil, List.append_nil, zcn, e0, e1, e2, eI, eU8, eB, eS, eSl, zfv, List.cons_append, List.nil_append]⟩
theorem gd_24 {n : Nat} : Dec P (n + 2) 24 cGSpan (fun _ => True) := by
 intro xs h
 obtain ⟨yss, hf, rfl⟩ := zhi (n := n + 1) (ts := [3, 3]) hu24 ht24 h
 match yss, hf with
 | [y0, y1], ⟨h0, h1, _⟩ =>
  obtain ⟨x0, r0, e0⟩ := gd_3 hu3 hu22 hu24 ht24 hu25 hu94 ht94 hu26 hu28 ht28 hu29 (n := n + 0) _ h0
  obtain ⟨x1, r1, e1⟩ := gd_3 hu3 hu22 hu24 ht24 hu25 hu94 ht94 hu26 hu28 ht28 hu29 (n := n + 0) _ h1
  exact ⟨⟨x0, x1⟩, trivial, by simp only [List.flatten_cons, List.flatten_nil, List.append_nil, zcn, e0, e1, eI, eU8, eB, eS, eSl, zfk, List.cons_append, List.nil_append]⟩
theorem gd_25 {n : Nat} : Dec P (n + 3) 25 cGA3GSpan (fun _ => True) := by
 intro xs h
 obtain ⟨yss, hf, rfl⟩ := zni (n := n + 2) (ts := [24, 24, 24]) hu25 rfl h
 match yss, hf with
 | [y0, y1, y2], ⟨h0, h1, h2, _⟩ =>
  obtain ⟨x0, r0, e0⟩ := gd_24 hu3 hu22 hu24 ht24 hu25 hu94 ht94 hu26 hu28 ht28 hu29 (n := n + 0) _ h0
  obtain ⟨x1, r1, e1⟩ := gd_24 hu3 hu22 hu24 ht24 hu25 hu94 ht94 hu26 hu28 ht28 hu29 (n := n + 0) _ h1
  obtain ⟨x2, r2, e2⟩ := gd_24 hu3 hu22 hu24 ht24 hu25 hu94 ht94 hu26 hu28 ht28 hu29 (n := n + 0) _ h2
  exact ⟨⟨x0, x1, x2⟩, trivial, by simp only [List.flatten_cons, List.flatten_nil, List.append_nil, zcn, e0, e1, e2, eI, eU8, eB, eS, eSl, zdw, zfk, List.cons_append, List.nil_append]⟩
theorem gd_94 {n : Nat} : Dec P (n + 4) 94 cGTintTin (fun _ => True) := by
 intro xs h
 obtain ⟨yss, hf, rfl⟩ := zhi (n := n + 3) (ts := [25]) hu94 ht94 h
 match yss, hf with
 | [y0], ⟨h0, _⟩ =>
  obtain ⟨x0, r0, e0⟩ := gd_25 hu3 hu22 hu24 ht24 hu25 hu94 ht94 hu26 hu28 ht28 hu29 (n := n + 0) _ h0
  exact ⟨⟨x0⟩, trivial, by simp only [List.flatten_cons, List.flatten_nil, List.append_nil, zcn, e0, eI, eU8, eB, eS, eSl, zdw, zfk, zfl, List.cons_append, List.nil_append]⟩
theorem gd_26 {n : Nat} : Dec P (n + 5) 26 (eSl cGTintTin) (fun l => lenOk l = true ∧ ∀ x ∈ l, True) := zln hu26 (gd_94 hu3 hu22 hu24 ht24 hu25 hu94 ht94 hu26 hu28 ht28 hu29 (n := n))
theorem gd_28 {n : Nat} : Dec P (n + 6) 28 cGTintSheet (zgn) := by
 intro xs h
 obtain ⟨yss, hf, rfl⟩ := zhi (n := n + 5) (ts := [22, 25, 24, 3, 26]) hu28 ht28 h
 match yss, hf with
 | [y0, y1, y2, y3, y4], ⟨h0, h1, h2, h3, h4, _⟩ =>
  obtain ⟨x0, r0, e0⟩ := gd_22 hu3 hu22 hu24 ht24 hu25 hu94 ht94 hu26 hu28 ht28 hu29 (n := n + 3) _ h0
  obtain ⟨x1, r1, e1⟩ := gd_25 hu3 hu22 hu24 ht24 hu25 hu94 ht94 hu26 hu28 ht28 hu29 (n := n + 2) _ h1
  obtain ⟨x2, r2, e2⟩ := gd_24 hu3 hu22 hu24 ht24 hu25 hu94 ht94 hu26 hu28 ht28 hu29 (n := n + 3) _ h2
  obtain ⟨x3, r3, e3⟩ := gd_3 hu3 hu22 hu24 ht24 hu25 hu94 ht94 hu26 hu28 ht28 hu29 (n := n + 4) _ h3
  obtain ⟨x4, r4, e4⟩ := gd_26 hu3 hu22 hu24 ht24 hu25 hu94 ht94 hu26 hu28 ht28 hu29 (n := n + 0) _ h4
  exact ⟨⟨x0, x1, x2, x3, x4⟩, r4.1, by simp only [List.flatten_cons, List.flatten_nil, List.append_nil, zcn, e0, e1, e2, e3, e4, eI, eU8, eB, eS, eSl, zdw, zfv, zfk, zfc, List.cons_append, List.nil_append]⟩
theorem gd_29 {n : Nat} : Dec P (n + 2) 29 (eSl eI) (fun l => lenOk l = true ∧ ∀ x ∈ l, True) := zln hu29 (gd_3 hu3 hu22 hu24 ht24 hu25 hu94 ht94 hu26 hu28 ht28 hu29 (n := n))
end
theorem zalv {n : Nat} : Dec Tryz.prog (n + 6) 28 cGTintSheet (zgn) := gd_28 Tryz.underlying3 Tryz.underlying22 Tryz.underlying24 (by kernel_rfl) Tryz.underlying25 Tryz.underlying94 (by kernel_rfl) Tryz.underlying26 Tryz.underlying28 (by kernel_rfl) Tryz.underlying29
theorem zalu {n : Nat} : Dec Tryz.prog (n + 2) 29 (eSl eI) (fun l => lenOk l = true ∧ ∀ x ∈ l, True) := gd_29 Tryz.underlying3 Tryz.underlying22 Tryz.underlying24 (by kernel_rfl) Tryz.underlying25 Tryz.underlying94 (by kernel_rfl) Tryz.underlying26 Tryz.underlying28 (by kernel_rfl) Tryz.underlying29
end Go.V
end
