/- Part of a proof. -/
import Derived.Test.YtjpgejagakmjgaaGreatDoorRbj
set_option linter.all false
set_option maxRecDepth 4000
set_option maxHeartbeats 40000000
section
set_option maxRecDepth 100000
namespace Go.V
open Go Go.Proofs
def zbt (x : GPriceSheet) : Prop := lenOk x.Offs = true ∧ lenOk x.Boards = true ∧ lenOk x.Tariffs = true
section
variable {P : Program} (hu3 : P.underlying 3 = some (.int .i64)) (hu22 : P.underlying 22 = some (.slice 3)) {f33 : Array Field} (hu33 : P.underlying 33 = some (.struct f33)) (ht33 : f33.toList.map Field.type = [3, 3]) {f75 : Array Field} (hu75 : P.underlying 75 = some (.struct f75)) (ht75 : f75.toList.map Field.type = [3, 3, 33, 3]) (hu23 : P.underlying 23 = some (.slice 75)) (hu39 : P.underlying 39 = some (.int .i64)) (hu40 : P.underlying 40 = some (.int .i64)) (hu4 : P.underlying 4 = some (.bool)) {f42 : Array Field} (hu42 : P.underlying 42 = some (.struct f42)) (ht42 : f42.toList.map Field.type = [39, 3, 3, 40, 4]) (hu24 : P.underlying 24 = some (.slice 42)) {f26 : Array Field} (hu26 : P.underlying 26 = some (.struct f26)) (ht26 : f26.toList.map Field.type = [22, 23, 24])
include hu3 hu22 hu33 ht33 hu75 ht75 hu23 hu39 hu40 hu4 hu42 ht42 hu24 hu26 ht26
theorem gd_3 {n : Nat} : Dec P (n + 1) 3 eI (fun _ => True) := zil hu3
theorem gd_22 {n : Nat} : Dec P (n + 2) 22 (eSl eI) (fun l => lenOk l = true ∧ ∀ x ∈ l, True) := zer hu22 (gd_3 hu3 hu22 hu33 ht33 hu75 ht75 hu23 hu39 hu40 hu4 hu42 ht42 hu24 hu26 ht26 (n := n))
theorem gd_33 {n : Nat} : Dec P (n + 2) 33 cGSpan (fun _ => True) := by
 intro xs h
 obtain ⟨yss, hf, rfl⟩ := zcj (n := n + 1) (ts := [3, 3]) hu33 ht33 h
 match yss, hf with
 | [y0, y1], ⟨h0, h1, _⟩ =>
  obtain ⟨x0, r0, e0⟩ := gd_3 hu3 hu22 hu33 ht33 hu75 ht75 hu23 hu39 hu40 hu4 hu42 ht42 hu24 hu26 ht26 (n := n + 0) _ h0
  obtain ⟨x1, r1, e1⟩ := gd_3 hu3 hu22 hu33 ht33 hu75 ht75 hu23 hu39 hu40 hu4 hu42 ht42 hu24 hu26 ht26 (n := n + 0) _ h1
  exact ⟨⟨x0, x1⟩, trivial, by simp only [List.flatten_cons, List.flatten_nil, List.append_nil, zbe, e0, e1, eI, eU8, eB, eS, eSl, zfc, List.cons_append, List.nil_append]⟩
theorem gd_75 {n : Nat} : Dec P (n + 3) 75 cGPriceBoard (fun _ => True) := by
 intro xs h
 obtain ⟨yss, hf, rfl⟩ := zcj (n := n + 2) (ts := [3, 3, 33, 3]) hu75 ht75 h
 match yss, hf with
 | [y0, y1, y2, y3], ⟨h0, h1, h2, h3, _⟩ =>
  obtain ⟨x0, r0, e0⟩ := gd_3 hu3 hu22 hu33 ht33 hu75 ht75 hu23 hu39 hu40 hu4 hu42 ht42 hu24 hu26 ht26 (n := n + 1) _ h0
  obtain ⟨x1, r1, e1⟩ := gd_3 hu3 hu22 hu33 ht33 hu75 ht75 hu23 hu39 hu40 hu4 hu42 ht42 hu24 hu26 ht26 (n := n + 1) _ h1
  obtain ⟨x2, r2, e2⟩ := gd_33 hu3 hu22 hu33 ht33 hu75 ht75 hu23 hu39 hu40 hu4 hu42 ht42 hu24 hu26 ht26 (n := n + 0) _ h2
  obtain ⟨x3, r3, e3⟩ := gd_3 hu3 hu22 hu33 ht33 hu75 ht75 hu23 hu39 hu40 hu4 hu42 ht42 hu24 hu26 ht26 (n := n + 1) _ h3
  exact ⟨⟨x0, x1, x2, x3⟩, trivial, by simp only [List.flatten_cons, List.flatten_nil, List.append_nil, zbe, e0, e1, e2, e3, eI, eU8, eB, eS, eSl, zck, zfc, List.cons_append, List.nil_append]⟩
theorem gd_23 {n : Nat} : Dec P (n + 4) 23 (eSl cGPriceBoard) (fun l => lenOk l = true ∧ ∀ x ∈ l, True) := zer hu23 (gd_75 hu3 hu22 hu33 ht33 hu75 ht75 hu23 hu39 hu40 hu4 hu42 ht42 hu24 hu26 ht26 (n := n))
theorem gd_39 {n : Nat} : Dec P (n + 1) 39 eI (fun _ => True) := zil hu39
theorem gd_40 {n : Nat} : Dec P (n + 1) 40 eI (fun _ => True) := zil hu40
theorem gd_4 {n : Nat} : Dec P (n + 1) 4 eB (fun _ => True) := zqc hu4
theorem gd_42 {n : Nat} : Dec P (n + 2) 42 cGPriceTariff (fun _ => True) := by
 intro xs h
 obtain ⟨yss, hf, rfl⟩ := zcj (n := n + 1) (ts := [39, 3, 3, 40, 4]) hu42 ht42 h
 match yss, hf with
 | [y0, y1, y2, y3, y4], ⟨h0, h1, h2, h3, h4, _⟩ =>
  obtain ⟨x0, r0, e0⟩ := gd_39 hu3 hu22 hu33 ht33 hu75 ht75 hu23 hu39 hu40 hu4 hu42 ht42 hu24 hu26 ht26 (n := n + 0) _ h0
  obtain ⟨x1, r1, e1⟩ := gd_3 hu3 hu22 hu33 ht33 hu75 ht75 hu23 hu39 hu40 hu4 hu42 ht42 hu24 hu26 ht26 (n := n + 0) _ h1
  obtain ⟨x2, r2, e2⟩ := gd_3 hu3 hu22 hu33 ht33 hu75 ht75 hu23 hu39 hu40 hu4 hu42 ht42 hu24 hu26 ht26 (n := n + 0) _ h2
  obtain ⟨x3, r3, e3⟩ := gd_40 hu3 hu22 hu33 ht33 hu75 ht75 hu23 hu39 hu40 hu4 hu42 ht42 hu24 hu26 ht26 (n := n + 0) _ h3
  obtain ⟨x4, r4, e4⟩ := gd_4 hu3 hu22 hu33 ht33 hu75 ht75 hu23 hu39 hu40 hu4 hu42 ht42 hu24 hu26 ht26 (n := n + 0) _ h4
  exact ⟨⟨x0, x1, x2, x3, x4⟩, trivial, by simp only [List.flatten_cons, List.flatten_nil, List.append_nil, zbe, e0, e1, e2, e3, e4, eI, eU8, eB, eS, eSl, zce, List.cons_append, List.nil_append]⟩
theorem gd_24 {n : Nat} : Dec P (n + 3) 24 (eSl cGPriceTariff) (fun l => lenOk l = true ∧ ∀ x ∈ l, True) := zer hu24 (gd_42 hu3 hu22 hu33 ht33 hu75 ht75 hu23 hu39 hu40 hu4 hu42 ht42 hu24 hu26 ht26 (n := n))
theorem gd_26 {n : Nat} : Dec P (n + 5) 26 cGPriceSheet (zbt) := by
 intro xs h
 obtain ⟨yss, hf, rfl⟩ := zcj (n := n + 4) (ts := [22, 23, 24]) hu26 ht26 h
 match yss, hf with
 | [y0, y1, y2], ⟨h0, h1, h2, _⟩ =>
  obtain ⟨x0, r0, e0⟩ := gd_22 hu3 hu22 hu33 ht33 hu75 ht75 hu23 hu39 hu40 hu4 hu42 ht42 hu24 hu26 ht26 (n := n + 2) _ h0
  obtain ⟨x1, r1, e1⟩ := gd_23 hu3 hu22 hu33 ht33 hu75 ht75 hu23 hu39 hu40 hu4 hu42 ht42 hu24 hu26 ht26 (n := n + 0) _ h1
  obtain ⟨x2, r2, e2⟩ := gd_24 hu3 hu22 hu33 ht33 hu75 ht75 hu23 hu39 hu40 hu4 hu42 ht42 hu24 hu26 ht26 (n := n + 1) _ h2
  exact ⟨⟨x0, x1, x2⟩, ⟨r0.1, r1.1, r2.1⟩, by simp only [List.flatten_cons, List.flatten_nil, List.append_nil, zbe, e0, e1, e2, eI, eU8, eB, eS, eSl, zdd, List.cons_append, List.nil_append]⟩
end
theorem dec_3 {n : Nat} : Dec Tryz.prog (n + 1) 3 eI (fun _ => True) := gd_3 Tryz.underlying3 Tryz.underlying22 Tryz.underlying33 (by kernel_rfl) Tryz.underlying75 (by kernel_rfl) Tryz.underlying23 Tryz.underlying39 Tryz.underlying40 Tryz.underlying4 Tryz.underlying42 (by kernel_rfl) Tryz.underlying24 Tryz.underlying26 (by kernel_rfl)
theorem zsw {n : Nat} : Dec Tryz.prog (n + 2) 22 (eSl eI) (fun l => lenOk l = true ∧ ∀ x ∈ l, True) := gd_22 Tryz.underlying3 Tryz.underlying22 Tryz.underlying33 (by kernel_rfl) Tryz.underlying75 (by kernel_rfl) Tryz.underlying23 Tryz.underlying39 Tryz.underlying40 Tryz.underlying4 Tryz.underlying42 (by kernel_rfl) Tryz.underlying24 Tryz.underlying26 (by kernel_rfl)
theorem zsi {n : Nat} : Dec Tryz.prog (n + 5) 26 cGPriceSheet (zbt) := gd_26 Tryz.underlying3 Tryz.underlying22 Tryz.underlying33 (by kernel_rfl) Tryz.underlying75 (by kernel_rfl) Tryz.underlying23 Tryz.underlying39 Tryz.underlying40 Tryz.underlying4 Tryz.underlying42 (by kernel_rfl) Tryz.underlying24 Tryz.underlying26 (by kernel_rfl)
end Go.V
end
section
namespace Go.V
open Go
theorem setAF {α : Type} {enc : α → List VV} {w : Nat} {xs : List α} {x : α} {i : Int} (o m : Nat) (he : ∀ x, (enc x).length = w) (hm : o + m ≤ w) (h : getI xs i = some x) : (i.toNat * w + o + m ≤ (cellsL enc xs).length) = True := by
 have h1 := of_eq_true (setA (w := w) (enc := enc) he h)
 exact eq_true (by omega)
theorem zvj (A X B : List VV) (o : Nat) (cs : List VV) (h : o + cs.length ≤ X.length) : overwrite (A ++ (X ++ B)) (A.length + o) cs = A ++ (overwrite X o cs ++ B) := by
 unfold overwrite
 rw [List.take_append, List.take_of_length_le (Nat.le_add_right _ _), show A.length + o - A.length = o by omega, List.take_append_of_le_length (by omega),
  List.drop_append, List.drop_of_length_le (by omega), List.nil_append, show A.length + o + cs.length - A.length = o + cs.length by omega, List.drop_append_of_le_length h]
 simp only [List.append_assoc]
theorem setBF {α : Type} {enc : α → List VV} {w : Nat} {xs : List α} {x : α} {i : Int} (o : Nat) (cs : List VV) (v : α) (he : ∀ x, (enc x).length = w) (hc : o + cs.length ≤ w) (h : getI xs i = some x) (hv : enc v = overwrite (enc x) o cs) : overwrite (cellsL enc xs) (i.toNat * w + o) cs = cellsL enc (xs.set i.toNat v) := by
 obtain ⟨h0, h1, h2⟩ := zhs h
 have hn : i.toNat < xs.length := by omega
 have e1 : xs = xs.take i.toNat ++ (x :: xs.drop (i.toNat + 1)) := by
  rw [← h2, List.take_append_drop]
 have e2 : xs.set i.toNat v = xs.take i.toNat ++ (v :: xs.drop (i.toNat + 1)) := by
  rw [List.set_eq_take_append_cons_drop, if_pos hn]
 have hl : (xs.take i.toNat).length = i.toNat := by rw [List.length_take]; omega
 have e3 : cellsL enc xs = cellsL enc (xs.take i.toNat) ++ (enc x ++ cellsL enc (xs.drop (i.toNat + 1))) := by
  conv => lhs; rw [e1, zfq]
  rfl
 have e4 : (cellsL enc (xs.take i.toNat)).length = i.toNat * w := by rw [zcb he, hl]
 rw [e3, ← e4, zvj _ _ _ _ _ (by rw [he]; exact hc), ← hv, e2, zfq]
 rfl
end Go.V
end
section
namespace Go.V
open Go Go.Proofs
theorem zaa {xs : List GPriceTariff} {i j : Nat} {a b : GPriceTariff} : (cellsL cGPriceTariff ((xs.set i a).set j b)).take (xs.length * 5) = cellsL cGPriceTariff ((xs.set i a).set j b) := by have h := tk24 (xs := (xs.set i a).set j b); simpa only [List.length_set] using h
def zgi (x0_s : GPriceSheet) (x1_a1 : Int) (x2_a2 : List Int) (x3_a3 : Int) (x4_a4 : Int) (x5_a5 : Int) : Option (Bool) := Option.bind (zel x0_s x1_a1 x2_a2) (fun r1 => cond (r1) (cond (decide (x3_a3 < 0)) (some true) (cond (decide (x3_a3 ≥ (List.length x0_s.Boards : Int))) (some true) (cond (decide (x4_a4 < 0)) (some true) (cond (decide (x4_a4 > 500)) (some true) (cond (decide (x5_a5 < 0)) (some true) (cond (decide (x5_a5 > 12)) (some true) (cond (neB x0_s.Boards) (cond (roomOk 40 (List.length ([] ++ x0_s.Boards))) (Option.bind (getI x0_s.Boards x3_a3) (fun x2 => Option.bind (zgz (IntKind.i64.wrap (x2.Hours.Low + (if (IntKind.i64.wrap (40 - x2.Hours.High)) < x4_a4 then (IntKind.i64.wrap (40 - x2.Hours.High)) else x4_a4))) (IntKind.i64.wrap (x2.Hours.High + (if (IntKind.i64.wrap (40 - x2.Hours.High)) < x4_a4 then (IntKind.i64.wrap (40 - x2.Hours.High)) else x4_a4)))) (fun r3 => Option.bind (getI ([] ++ x0_s.Boards) x3_a3) (fun x4 => cond (neB x0_s.Tariffs) (cond (roomOk 40 (List.length ([] ++ x0_s.Tariffs))) (Option.bind (getI x0_s.Tariffs x1_a1) (fun x5 => Option.bind (getI ([] ++ x0_s.Tariffs) x1_a1) (fun x6 => Option.bind (getI (List.set ([] ++ x0_s.Tariffs) (Int.toNat x1_a1) (GPriceTariff.mk x6.Kind (if (IntKind.i64.wrap (x5.Coins + x4_a4)) < 500 then (IntKind.i64.wrap (x5.Coins + x4_a4)) else 500) x6.Units x6.Rule x6.Each)) x1_a1) (fun x7 => cond (neB x2_a2) (cond (roomOk 8 (List.length ([] ++ x2_a2))) (Option.bind (getI x2_a2 x3_a3) (fun x8 => Option.bind (getI ([] ++ x2_a2) x3_a3) (fun x9 => Option.bind (zcx x0_s x1_a1 x2_a2) (fun r10 => Option.bind (zcx (GPriceSheet.mk x0_s.Offs (List.set ([] ++ x0_s.Boards) (Int.toNat x3_a3) (GPriceBoard.mk (if (IntKind.i64.wrap (x2.Letters + x4_a4)) < 60 then (IntKind.i64.wrap (x2.Letters + x4_a4)) else 60) (if (IntKind.i64.wrap (x2.Feet + x4_a4)) < 40 then (IntKind.i64.wrap (x2.Feet + x4_a4)) else 40) r3 x2.Owner)) (List.set (List.set ([] ++ x0_s.Tariffs) (Int.toNat x1_a1) (GPriceTariff.mk x6.Kind (if (IntKind.i64.wrap (x5.Coins + x4_a4)) < 500 then (IntKind.i64.wrap (x5.Coins + x4_a4)) else 500) x6.Units x6.Rule x6.Each)) (Int.toNat x1_a1) (GPriceTariff.mk x7.Kind x7.Coins (if 1 < (IntKind.i64.wrap (x5.Units - x5_a5)) then (IntKind.i64.wrap (x5.Units - x5_a5)) else 1) x7.Rule x7.Each))) x1_a1 (List.set ([] ++ x2_a2) (Int.toNat x3_a3) (IntKind.i64.wrap (x8 + (if (IntKind.i64.wrap (40 - x2.Hours.High)) < x4_a4 then (IntKind.i64.wrap (40 - x2.Hours.High)) else x4_a4))))) (fun r11 => Option.bind (zgk x0_s x1_a1) (fun r12 => Option.bind (zgk (GPriceSheet.mk x0_s.Offs (List.set ([] ++ x0_s.Boards) (Int.toNat x3_a3) (GPriceBoard.mk (if (IntKind.i64.wrap (x2.Letters + x4_a4)) < 60 then (IntKind.i64.wrap (x2.Letters + x4_a4)) else 60) (if (IntKind.i64.wrap (x2.Feet + x4_a4)) < 40 then (IntKind.i64.wrap (x2.Feet + x4_a4)) else 40) r3 x2.Owner)) (List.set (List.set ([] ++ x0_s.Tariffs) (Int.toNat x1_a1) (GPriceTariff.mk x6.Kind (if (IntKind.i64.wrap (x5.Coins + x4_a4)) < 500 then (IntKind.i64.wrap (x5.Coins + x4_a4)) else 500) x6.Units x6.Rule x6.Each)) (Int.toNat x1_a1) (GPriceTariff.mk x7.Kind x7.Coins (if 1 < (IntKind.i64.wrap (x5.Units - x5_a5)) then (IntKind.i64.wrap (x5.Units - x5_a5)) else 1) x7.Rule x7.Each))) x1_a1) (fun r13 => cond (r10.2 == 0) (cond (r11.2 == 0) (cond (r12.2 == 0) (cond (r13.2 == 0) (cond (decide (r10.1 ≥ 0)) (cond (decide (r10.1 ≤ r11.1)) (cond (decide (r12.1.Low ≤ r13.1.Low)) (cond (decide (r12.1.High ≤ r13.1.High)) (some true) (some false)) (some false)) (some false)) (some false)) (some false)) (some false)) (some false)) (some false)))))))) none) none)))) none) none)))) none) none))))))) (some true))
theorem zlh (x0_s : GPriceSheet) (x1_a1 : Int) (x2_a2 : List Int) (x3_a3 : Int) (x4_a4 : Int) (x5_a5 : Int) (R : Bool) (h : zgi x0_s x1_a1 x2_a2 x3_a3 x4_a4 x5_a5 = some R) : VPure Tryz.prog G0 17 [.agg (cGPriceSheet x0_s), .lit (.int .i64 x1_a1), .sl (cellsL eI x2_a2) (List.length x2_a2) false, .lit (.int .i64 x3_a3), .lit (.int .i64 x4_a4), .lit (.int .i64 x5_a5)] (.tree (.lit (.bool R))) := by
 refine VPure.runR mixed Tryz.call17 Tryz.func17 rfl (by simp [Tryz.ntmps17]; kernel_rfl) ?_
 obtain ⟨KF, h, kF, kN⟩ := zal h
 simp only [zgi] at h
 obtain ⟨r14, o15, h⟩ := optI h kN
 try simp only [hs] at h
 simp only [vz, @zaa, @argsTm6, tyf, @zaa, nm, seval]
 refine ktA (zif _ _ _ _ o15) ?_
 refine zah (fun tm => tm 1 = .lit (.int .i64 x1_a1) ∧ tm 2 = .sl (cellsL eI x2_a2) (List.length x2_a2) false ∧ tm 3 = .lit (.int .i64 x3_a3) ∧ tm 4 = .lit (.int .i64 x4_a4) ∧ tm 5 = .lit (.int .i64 x5_a5) ∧ tm 6 = .ptr 0 0 ∧ tm 29 = .lit (.bool r14) ∧ True) (by refine ⟨?_, ?_, ?_, ?_, ?_, ?_, ?_, trivial⟩ <;> first | (simp only [ua, nm, seval] <;> rfl) | rfl) ?_
 rintro tm ⟨e16, e17, e18, e19, e20, e21, e22, _⟩
 cases d23 : (r14)
 ·simp only [d23, hs] at h
  simp only [vz, @zaa, @argsTm6, tyf, @zaa, e16, e17, e18, e19, e20, e21, e22, d23, nm, seval]
  refine ktree0 zaf ?_
  try simp only [vz, @zaa, @argsTm6, tyf, @zaa, e16, e17, e18, e19, e20, e21, e22, d23, nm, seval]
  obtain rfl := kF _ h
  exact zac Tryz.results17 rfl
 simp only [d23, hs] at h
 cases d24 : (decide (x3_a3 < 0))
 ·simp only [d24, hs] at h
  cases d25 : (decide (x3_a3 ≥ (List.length x0_s.Boards : Int)))
  ·simp only [d25, hs] at h
   cases d26 : (decide (x4_a4 < 0))
   ·simp only [d26, hs] at h
    cases d27 : (decide (x4_a4 > 500))
    ·simp only [d27, hs] at h
     cases d28 : (decide (x5_a5 < 0))
     ·simp only [d28, hs] at h
      cases d29 : (decide (x5_a5 > 12))
      ·simp only [d29, hs] at h
       have b30 := And.intro d23 (And.intro d24 (And.intro d25 (And.intro d26 (And.intro d27 (And.intro d28 d29)))))
       cases g31 : (neB x0_s.Boards)
       ·simp only [g31, hs] at h
        exact absurd h kN
       simp only [g31, hs] at h
       cases g32 : (roomOk 40 (List.length ([] ++ x0_s.Boards)))
       ·simp only [g32, hs] at h
        exact absurd h kN
       simp only [g32, hs] at h
       simp only [vz, @zaa, @argsTm6, tyf, @zaa, b30, e16, e17, e18, e19, e20, e21, e22, g31, g32, nm, seval]
       refine zaez (w := 5) (enc := cGPriceBoard) (ys := x0_s.Boards) (fun _ => rfl) lf23 ao23 Tryz.underlying23 g31 g32 ?_
       obtain ⟨x33, o34, h⟩ := optI h kN
       try simp only [hs] at h
       simp only [vz, @zaa, @argsTm6, tyf, @zaa, b30, e16, e17, e18, e19, e20, e21, e22, g31, g32, (ix23 o34), nm, seval]
       refine zcr (fun tm => tm 1 = .lit (.int .i64 x1_a1) ∧ tm 2 = .sl (cellsL eI x2_a2) (List.length x2_a2) false ∧ tm 3 = .lit (.int .i64 x3_a3) ∧ tm 4 = .lit (.int .i64 x4_a4) ∧ tm 5 = .lit (.int .i64 x5_a5) ∧ tm 6 = .ptr 0 0 ∧ tm 13 = .ptr 35 0 ∧ tm 14 = .ptr 47 0 ∧ tm 15 = .lit (.int .i64 (if (IntKind.i64.wrap (40 - x33.Hours.High)) < x4_a4 then (IntKind.i64.wrap (40 - x33.Hours.High)) else x4_a4)) ∧ True) (by refine ⟨e16, e17, e18, e19, e20, e21, ?_, ?_, ?_, trivial⟩ <;> first | (simp only [ua, b30, e16, e17, e18, e19, e20, e21, e22, nm, seval] <;> rfl) | rfl) ?_
       rintro tm ⟨e35, e36, e37, e38, e39, e40, e41, e42, e43, _⟩
       obtain ⟨r44, o45, h⟩ := optI h kN
       try simp only [hs] at h
       simp only [vz, @zaa, @argsTm6, tyf, @zaa, b30, g31, g32, (ix23 o34), e35, e36, e37, e38, e39, e40, e41, e42, e43, nm, seval]
       refine dktA (zkt _ _ _ o45) ?_
       refine zah (fun tm => tm 1 = .lit (.int .i64 x1_a1) ∧ tm 2 = .sl (cellsL eI x2_a2) (List.length x2_a2) false ∧ tm 3 = .lit (.int .i64 x3_a3) ∧ tm 4 = .lit (.int .i64 x4_a4) ∧ tm 5 = .lit (.int .i64 x5_a5) ∧ tm 6 = .ptr 0 0 ∧ tm 13 = .ptr 35 0 ∧ tm 14 = .ptr 47 0 ∧ tm 15 = .lit (.int .i64 (if (IntKind.i64.wrap (40 - x33.Hours.High)) < x4_a4 then (IntKind.i64.wrap (40 - x33.Hours.High)) else x4_a4)) ∧ tm 76 = .ref 39 0 (List.length ([] ++ x0_s.Boards)) 5 (List.length ([] ++ x0_s.Boards)) ∧ tm 77 = .lit (.int .i64 x3_a3) ∧ tm 82 = .lit (.int .i64 (if (IntKind.i64.wrap (x33.Letters + x4_a4)) < 60 then (IntKind.i64.wrap (x33.Letters + x4_a4)) else 60)) ∧ tm 87 = .lit (.int .i64 (if (IntKind.i64.wrap (x33.Feet + x4_a4)) < 40 then (IntKind.i64.wrap (x33.Feet + x4_a4)) else 40)) ∧ tm 98 = .agg (cGSpan r44) ∧ True) (by refine ⟨e35, e36, e37, e38, e39, e40, e41, e42, e43, ?_, ?_, ?_, ?_, ?_, trivial⟩ <;> first | (simp only [ua, b30, e35, e36, e37, e38, e39, e40, e41, e42, e43, nm, seval] <;> rfl) | rfl) ?_
       rintro tm ⟨e46, e47, e48, e49, e50, e51, e52, e53, e54, e55, e56, e57, e58, e59, _⟩
       obtain ⟨x60, o61, h⟩ := optI h kN
       try simp only [hs] at h
       have w62 := setA (w := 5) (enc := cGPriceBoard) (fun _ => rfl) o61
       have w63 := setB (w := 5) (enc := cGPriceBoard) (GPriceBoard.mk (if (IntKind.i64.wrap (x33.Letters + x4_a4)) < 60 then (IntKind.i64.wrap (x33.Letters + x4_a4)) else 60) (if (IntKind.i64.wrap (x33.Feet + x4_a4)) < 40 then (IntKind.i64.wrap (x33.Feet + x4_a4)) else 40) r44 x33.Owner) (fun _ => rfl) o61
       simp only [vz, @zaa, @argsTm6, tyf, @zaa, nm, seval] at w63
       have w64 := setC (w := 5) (enc := cGPriceBoard) ([] ++ x0_s.Boards) (Int.toNat x3_a3) (GPriceBoard.mk (if (IntKind.i64.wrap (x33.Letters + x4_a4)) < 60 then (IntKind.i64.wrap (x33.Letters + x4_a4)) else 60) (if (IntKind.i64.wrap (x33.Feet + x4_a4)) < 40 then (IntKind.i64.wrap (x33.Feet + x4_a4)) else 40) r44 x33.Owner) (fun _ => rfl)
       simp only [vz, @zaa, @argsTm6, tyf, @zaa, b30, g31, g32, (ix23 o34), e46, e47, e48, e49, e50, e51, e52, e53, e54, e55, e56, e57, e58, e59, (ixo23 o61), w62, w63, w64, nm, seval]
       refine zdn ⟨?_, ?_⟩
       ·simp only [zca, zct, zay, zeo, and_true, true_and]
        repeat' (first | exact trivial | refine And.intro ?_ ?_ | rw [zay] | rw [zdm] | exact Or.inl (by decide +kernel) | exact Or.inl (by dsimp only; decide +kernel) | (refine Or.inr ⟨?_, ?_⟩ <;> simp; done) | (refine Or.inr ⟨?_, ?_⟩ <;> simp <;> omega) | (refine Or.inr ⟨?_, ?_⟩ <;> simp [VEff.wr] <;> omega))
       cases g65 : (neB x0_s.Tariffs)
       ·simp only [g65, hs] at h
        exact absurd h kN
       simp only [g65, hs] at h
       cases g66 : (roomOk 40 (List.length ([] ++ x0_s.Tariffs)))
       ·simp only [g66, hs] at h
        exact absurd h kN
       simp only [g66, hs] at h
       simp only [vz, @zaa, @argsTm6, tyf, @zaa, b30, g31, g32, (ix23 o34), e46, e47, e48, e49, e50, e51, e52, e53, e54, e55, e56, e57, e58, e59, (ixo23 o61), w62, w63, w64, g65, g66, nm, seval]
       refine zaez (w := 5) (enc := cGPriceTariff) (ys := x0_s.Tariffs) (fun _ => rfl) lf24 ao24 Tryz.underlying24 g65 g66 ?_
       obtain ⟨x67, o68, h⟩ := optI h kN
       try simp only [hs] at h
       obtain ⟨x69, o70, h⟩ := optI h kN
       try simp only [hs] at h
       have w71 := setAF (w := 5) (enc := cGPriceTariff) 1 1 (fun _ => rfl) (by decide) o70
       have w72 := setBF (w := 5) (enc := cGPriceTariff) 1 [.lit (.int .i64 (if (IntKind.i64.wrap (x67.Coins + x4_a4)) < 500 then (IntKind.i64.wrap (x67.Coins + x4_a4)) else 500))] (GPriceTariff.mk x69.Kind (if (IntKind.i64.wrap (x67.Coins + x4_a4)) < 500 then (IntKind.i64.wrap (x67.Coins + x4_a4)) else 500) x69.Units x69.Rule x69.Each) (fun _ => rfl) (by simp) o70 rfl
       simp only [vz, @zaa, @argsTm6, tyf, @zaa, nm, seval] at w72
       have w73 := setC (w := 5) (enc := cGPriceTariff) ([] ++ x0_s.Tariffs) (Int.toNat x1_a1) (GPriceTariff.mk x69.Kind (if (IntKind.i64.wrap (x67.Coins + x4_a4)) < 500 then (IntKind.i64.wrap (x67.Coins + x4_a4)) else 500) x69.Units x69.Rule x69.Each) (fun _ => rfl)
       obtain ⟨x74, o75, h⟩ := optI h kN
       try simp only [hs] at h
       have w76 := setAF (w := 5) (enc := cGPriceTariff) 2 1 (fun _ => rfl) (by decide) o75
       have w77 := setBF (w := 5) (enc := cGPriceTariff) 2 [.lit (.int .i64 (if 1 < (IntKind.i64.wrap (x67.Units - x5_a5)) then (IntKind.i64.wrap (x67.Units - x5_a5)) else 1))] (GPriceTariff.mk x74.Kind x74.Coins (if 1 < (IntKind.i64.wrap (x67.Units - x5_a5)) then (IntKind.i64.wrap (x67.Units - x5_a5)) else 1) x74.Rule x74.Each) (fun _ => rfl) (by simp) o75 rfl
       simp only [vz, @zaa, @argsTm6, tyf, @zaa, nm, seval] at w77
       have w78 := setC (w := 5) (enc := cGPriceTariff) (List.set ([] ++ x0_s.Tariffs) (Int.toNat x1_a1) (GPriceTariff.mk x69.Kind (if (IntKind.i64.wrap (x67.Coins + x4_a4)) < 500 then (IntKind.i64.wrap (x67.Coins + x4_a4)) else 500) x69.Units x69.Rule x69.Each)) (Int.toNat x1_a1) (GPriceTariff.mk x74.Kind x74.Coins (if 1 < (IntKind.i64.wrap (x67.Units - x5_a5)) then (IntKind.i64.wrap (x67.Units - x5_a5)) else 1) x74.Rule x74.Each) (fun _ => rfl)
       cases g79 : (neB x2_a2)
       ·simp only [g79, hs] at h
        exact absurd h kN
       simp only [g79, hs] at h
       cases g80 : (roomOk 8 (List.length ([] ++ x2_a2)))
       ·simp only [g80, hs] at h
        exact absurd h kN
       simp only [g80, hs] at h
       simp only [vz, @zaa, @argsTm6, tyf, @zaa, b30, g31, g32, (ix23 o34), e46, e47, e48, e49, e50, e51, e52, e53, e54, e55, e56, e57, e58, e59, (ixo23 o61), w62, w63, w64, g65, g66, (ix24 o68), (ixo24 o70), w71, w72, w73, (ixo24 o75), w76, w77, w78, g79, g80, nm, seval]
       refine zaez (w := 1) (enc := eI) (ys := x2_a2) (fun _ => rfl) lf22 ao22 Tryz.underlying22 g79 g80 ?_
       obtain ⟨x81, o82, h⟩ := optI h kN
       try simp only [hs] at h
       obtain ⟨x83, o84, h⟩ := optI h kN
       try simp only [hs] at h
       have w85 := setA (w := 1) (enc := eI) (fun _ => rfl) o84
       have w86 := setB (w := 1) (enc := eI) (IntKind.i64.wrap (x81 + (if (IntKind.i64.wrap (40 - x33.Hours.High)) < x4_a4 then (IntKind.i64.wrap (40 - x33.Hours.High)) else x4_a4))) (fun _ => rfl) o84
       simp only [vz, @zaa, @argsTm6, tyf, @zaa, nm, seval] at w86
       have w87 := setC (w := 1) (enc := eI) ([] ++ x2_a2) (Int.toNat x3_a3) (IntKind.i64.wrap (x81 + (if (IntKind.i64.wrap (40 - x33.Hours.High)) < x4_a4 then (IntKind.i64.wrap (40 - x33.Hours.High)) else x4_a4))) (fun _ => rfl)
       obtain ⟨r88, o89, h⟩ := optI h kN
       try simp only [hs] at h
       simp only [vz, @zaa, @argsTm6, tyf, @zaa, b30, g31, g32, (ix23 o34), e46, e47, e48, e49, e50, e51, e52, e53, e54, e55, e56, e57, e58, e59, (ixo23 o61), w62, w63, w64, g65, g66, (ix24 o68), (ixo24 o70), w71, w72, w73, (ixo24 o75), w76, w77, w78, g79, g80, (ix22 o82), (ixo22 o84), w85, w86, w87, nm, seval]
       refine ktA (zdg _ _ _ _ o89) ?_
       refine zah (fun tm => tm 1 = .lit (.int .i64 x1_a1) ∧ tm 6 = .ptr 0 0 ∧ tm 13 = .ptr 35 0 ∧ tm 17 = .ref 120 0 (List.length (List.set ([] ++ x2_a2) (Int.toNat x3_a3) (IntKind.i64.wrap (x81 + (if (IntKind.i64.wrap (40 - x33.Hours.High)) < x4_a4 then (IntKind.i64.wrap (40 - x33.Hours.High)) else x4_a4))))) 1 (List.length (List.set ([] ++ x2_a2) (Int.toNat x3_a3) (IntKind.i64.wrap (x81 + (if (IntKind.i64.wrap (40 - x33.Hours.High)) < x4_a4 then (IntKind.i64.wrap (40 - x33.Hours.High)) else x4_a4))))) ∧ tm 147 = .tup [.lit (.int .i64 r88.1), .lit (.int .i64 r88.2)] ∧ True) (by refine ⟨e46, e51, e52, ?_, ?_, trivial⟩ <;> first | (simp only [ua, b30, e46, e47, e48, e49, e50, e51, e52, e53, e54, e55, e56, e57, e58, e59, w62, w63, w64, w71, w72, w73, w76, w77, w78, w85, w86, w87, nm, seval] <;> rfl) | rfl) ?_
       rintro tm ⟨e90, e91, e92, e93, e94, _⟩
       have b95 := And.intro b30 (And.intro g31 (And.intro g32 (And.intro w62 (And.intro w63 (And.intro w64 (And.intro g65 (And.intro g66 (And.intro w71 (And.intro w72 (And.intro w73 (And.intro w76 (And.intro w77 (And.intro w78 (And.intro g79 (And.intro g80 (And.intro w85 (And.intro w86 w87)))))))))))))))))
       obtain ⟨r96, o97, h⟩ := optI h kN
       try simp only [hs] at h
       simp only [vz, @zaa, @argsTm6, tyf, @zaa, b95, (ix23 o34), (ixo23 o61), (ix24 o68), (ixo24 o70), (ixo24 o75), (ix22 o82), (ixo22 o84), e90, e91, e92, e93, e94, nm, seval]
       refine kseen (args0 := [.agg (cGPriceSheet (GPriceSheet.mk x0_s.Offs (List.set ([] ++ x0_s.Boards) (Int.toNat x3_a3) (GPriceBoard.mk (if (IntKind.i64.wrap (x33.Letters + x4_a4)) < 60 then (IntKind.i64.wrap (x33.Letters + x4_a4)) else 60) (if (IntKind.i64.wrap (x33.Feet + x4_a4)) < 40 then (IntKind.i64.wrap (x33.Feet + x4_a4)) else 40) r44 x33.Owner)) (List.set (List.set ([] ++ x0_s.Tariffs) (Int.toNat x1_a1) (GPriceTariff.mk x69.Kind (if (IntKind.i64.wrap (x67.Coins + x4_a4)) < 500 then (IntKind.i64.wrap (x67.Coins + x4_a4)) else 500) x69.Units x69.Rule x69.Each)) (Int.toNat x1_a1) (GPriceTariff.mk x74.Kind x74.Coins (if 1 < (IntKind.i64.wrap (x67.Units - x5_a5)) then (IntKind.i64.wrap (x67.Units - x5_a5)) else 1) x74.Rule x74.Each)))), .lit (.int .i64 x1_a1), .sl (cellsL eI (List.set ([] ++ x2_a2) (Int.toNat x3_a3) (IntKind.i64.wrap (x81 + (if (IntKind.i64.wrap (40 - x33.Hours.High)) < x4_a4 then (IntKind.i64.wrap (40 - x33.Hours.High)) else x4_a4))))) (List.length (List.set ([] ++ x2_a2) (Int.toNat x3_a3) (IntKind.i64.wrap (x81 + (if (IntKind.i64.wrap (40 - x33.Hours.High)) < x4_a4 then (IntKind.i64.wrap (40 - x33.Hours.High)) else x4_a4))))) false]) (by simp only [List.map_cons, List.map_nil, zai, zad, zab, cr, tyf, @zaa, nrm, tynrm, b95, (ix23 o34), (ixo23 o61), (ix24 o68), (ixo24 o70), (ixo24 o75), (ix22 o82), (ixo22 o84), e90, e91, e92, e93, e94, nm, seval] <;> rfl) (by simp only [List.map_cons, List.map_nil, zai, zad, zab, cr, tyf, @zaa, nrm, tynrm, b95, (ix23 o34), (ixo23 o61), (ix24 o68), (ixo24 o70), (ixo24 o75), (ix22 o82), (ixo22 o84), e90, e91, e92, e93, e94, nm, seval]; simp only [tre, tytre, Bool.and_self]) (zdg _ _ _ _ o97) (by first | rfl | simp only [VV.flat, flatL, Bool.and_self]) ?_
       refine zah (fun tm => tm 1 = .lit (.int .i64 x1_a1) ∧ tm 6 = .ptr 0 0 ∧ tm 13 = .ptr 35 0 ∧ tm 18 = .lit (.int .i64 r88.1) ∧ tm 19 = .lit (.int .i64 r88.2) ∧ tm 154 = .tup [.lit (.int .i64 r96.1), .lit (.int .i64 r96.2)] ∧ True) (by refine ⟨e90, e91, e92, ?_, ?_, ?_, trivial⟩ <;> first | (simp only [ua, b95, e90, e91, e92, e93, e94, nm, seval] <;> rfl) | rfl) ?_
       rintro tm ⟨e98, e99, e100, e101, e102, e103, _⟩
       obtain ⟨r104, o105, h⟩ := optI h kN
       try simp only [hs] at h
       simp only [vz, @zaa, @argsTm6, tyf, @zaa, b95, (ix23 o34), (ixo23 o61), (ix24 o68), (ixo24 o70), (ixo24 o75), (ix22 o82), (ixo22 o84), e98, e99, e100, e101, e102, e103, nm, seval]
       refine ktA (ziy _ _ _ o105) ?_
       refine zah (fun tm => tm 1 = .lit (.int .i64 x1_a1) ∧ tm 13 = .ptr 35 0 ∧ tm 18 = .lit (.int .i64 r88.1) ∧ tm 19 = .lit (.int .i64 r88.2) ∧ tm 20 = .lit (.int .i64 r96.1) ∧ tm 21 = .lit (.int .i64 r96.2) ∧ tm 160 = .tup [.agg (cGSpan r104.1), .lit (.int .i64 r104.2)] ∧ True) (by refine ⟨e98, e100, e101, e102, ?_, ?_, ?_, trivial⟩ <;> first | (simp only [ua, b95, e98, e99, e100, e101, e102, e103, nm, seval] <;> rfl) | rfl) ?_
       rintro tm ⟨e106, e107, e108, e109, e110, e111, e112, _⟩
       obtain ⟨r113, o114, h⟩ := optI h kN
       try simp only [hs] at h
       simp only [vz, @zaa, @argsTm6, tyf, @zaa, b95, (ix23 o34), (ixo23 o61), (ix24 o68), (ixo24 o70), (ixo24 o75), (ix22 o82), (ixo22 o84), e106, e107, e108, e109, e110, e111, e112, nm, seval]
       refine kseen (args0 := [.agg (cGPriceSheet (GPriceSheet.mk x0_s.Offs (List.set ([] ++ x0_s.Boards) (Int.toNat x3_a3) (GPriceBoard.mk (if (IntKind.i64.wrap (x33.Letters + x4_a4)) < 60 then (IntKind.i64.wrap (x33.Letters + x4_a4)) else 60) (if (IntKind.i64.wrap (x33.Feet + x4_a4)) < 40 then (IntKind.i64.wrap (x33.Feet + x4_a4)) else 40) r44 x33.Owner)) (List.set (List.set ([] ++ x0_s.Tariffs) (Int.toNat x1_a1) (GPriceTariff.mk x69.Kind (if (IntKind.i64.wrap (x67.Coins + x4_a4)) < 500 then (IntKind.i64.wrap (x67.Coins + x4_a4)) else 500) x69.Units x69.Rule x69.Each)) (Int.toNat x1_a1) (GPriceTariff.mk x74.Kind x74.Coins (if 1 < (IntKind.i64.wrap (x67.Units - x5_a5)) then (IntKind.i64.wrap (x67.Units - x5_a5)) else 1) x74.Rule x74.Each)))), .lit (.int .i64 x1_a1)]) (by simp only [List.map_cons, List.map_nil, zai, zad, zab, cr, tyf, @zaa, nrm, tynrm, b95, (ix23 o34), (ixo23 o61), (ix24 o68), (ixo24 o70), (ixo24 o75), (ix22 o82), (ixo22 o84), e106, e107, e108, e109, e110, e111, e112, nm, seval] <;> rfl) (by simp only [List.map_cons, List.map_nil, zai, zad, zab, cr, tyf, @zaa, nrm, tynrm, b95, (ix23 o34), (ixo23 o61), (ix24 o68), (ixo24 o70), (ixo24 o75), (ix22 o82), (ixo22 o84), e106, e107, e108, e109, e110, e111, e112, nm, seval]; simp only [tre, tytre, Bool.and_self]) (ziy _ _ _ o114) (by first | rfl | simp only [VV.flat, flatL, Bool.and_self]) ?_
       refine zah (fun tm => tm 18 = .lit (.int .i64 r88.1) ∧ tm 19 = .lit (.int .i64 r88.2) ∧ tm 20 = .lit (.int .i64 r96.1) ∧ tm 21 = .lit (.int .i64 r96.2) ∧ tm 22 = .ptr 156 0 ∧ tm 23 = .lit (.int .i64 r104.2) ∧ tm 166 = .tup [.agg (cGSpan r113.1), .lit (.int .i64 r113.2)] ∧ True) (by refine ⟨e108, e109, e110, e111, ?_, ?_, ?_, trivial⟩ <;> first | (simp only [ua, b95, e106, e107, e108, e109, e110, e111, e112, nm, seval] <;> rfl) | rfl) ?_
       rintro tm ⟨e115, e116, e117, e118, e119, e120, e121, _⟩
       cases d122 : (r88.2 == 0)
       ·simp only [d122, hs] at h
        try simp only [vz, @zaa, @argsTm6, tyf, @zaa, b95, (ix23 o34), (ixo23 o61), (ix24 o68), (ixo24 o70), (ixo24 o75), (ix22 o82), (ixo22 o84), e115, e116, e117, e118, e119, e120, e121, d122, nm, seval]
        obtain rfl := kF _ h
        exact zac Tryz.results17 rfl
       simp only [d122, hs] at h
       cases d123 : (r96.2 == 0)
       ·simp only [d123, hs] at h
        try simp only [vz, @zaa, @argsTm6, tyf, @zaa, b95, (ix23 o34), (ixo23 o61), (ix24 o68), (ixo24 o70), (ixo24 o75), (ix22 o82), (ixo22 o84), e115, e116, e117, e118, e119, e120, e121, d122, d123, nm, seval]
        obtain rfl := kF _ h
        exact zac Tryz.results17 rfl
       simp only [d123, hs] at h
       cases d124 : (r104.2 == 0)
       ·simp only [d124, hs] at h
        try simp only [vz, @zaa, @argsTm6, tyf, @zaa, b95, (ix23 o34), (ixo23 o61), (ix24 o68), (ixo24 o70), (ixo24 o75), (ix22 o82), (ixo22 o84), e115, e116, e117, e118, e119, e120, e121, d122, d123, d124, nm, seval]
        obtain rfl := kF _ h
        exact zac Tryz.results17 rfl
       simp only [d124, hs] at h
       cases d125 : (r113.2 == 0)
       ·simp only [d125, hs] at h
        try simp only [vz, @zaa, @argsTm6, tyf, @zaa, b95, (ix23 o34), (ixo23 o61), (ix24 o68), (ixo24 o70), (ixo24 o75), (ix22 o82), (ixo22 o84), e115, e116, e117, e118, e119, e120, e121, d122, d123, d124, d125, nm, seval]
        obtain rfl := kF _ h
        exact zac Tryz.results17 rfl
       simp only [d125, hs] at h
       cases d126 : (decide (r88.1 ≥ 0))
       ·simp only [d126, hs] at h
        try simp only [vz, @zaa, @argsTm6, tyf, @zaa, b95, (ix23 o34), (ixo23 o61), (ix24 o68), (ixo24 o70), (ixo24 o75), (ix22 o82), (ixo22 o84), e115, e116, e117, e118, e119, e120, e121, d122, d123, d124, d125, d126, nm, seval]
        obtain rfl := kF _ h
        exact zac Tryz.results17 rfl
       simp only [d126, hs] at h
       cases d127 : (decide (r88.1 ≤ r96.1))
       ·simp only [d127, hs] at h
        have b128 := And.intro b95 (And.intro d122 (And.intro d123 (And.intro d124 (And.intro d125 (And.intro d126 d127)))))
        try simp only [vz, @zaa, @argsTm6, tyf, @zaa, b128, (ix23 o34), (ixo23 o61), (ix24 o68), (ixo24 o70), (ixo24 o75), (ix22 o82), (ixo22 o84), e115, e116, e117, e118, e119, e120, e121, nm, seval]
        obtain rfl := kF _ h
        exact zac Tryz.results17 rfl
       simp only [d127, hs] at h
       have b129 := And.intro b95 (And.intro d122 (And.intro d123 (And.intro d124 (And.intro d125 (And.intro d126 d127)))))
       cases d130 : (decide (r104.1.Low ≤ r113.1.Low))
       ·simp only [d130, hs] at h
        try simp only [vz, @zaa, @argsTm6, tyf, @zaa, b129, (ix23 o34), (ixo23 o61), (ix24 o68), (ixo24 o70), (ixo24 o75), (ix22 o82), (ixo22 o84), e115, e116, e117, e118, e119, e120, e121, d130, nm, seval]
        obtain rfl := kF _ h
        exact zac Tryz.results17 rfl
       simp only [d130, hs] at h
       cases d131 : (decide (r104.1.High ≤ r113.1.High))
       ·simp only [d131, hs] at h
        try simp only [vz, @zaa, @argsTm6, tyf, @zaa, b129, (ix23 o34), (ixo23 o61), (ix24 o68), (ixo24 o70), (ixo24 o75), (ix22 o82), (ixo22 o84), e115, e116, e117, e118, e119, e120, e121, d130, d131, nm, seval]
        obtain rfl := kF _ h
        exact zac Tryz.results17 rfl
       simp only [d131, hs] at h
       simp only [vz, @zaa, @argsTm6, tyf, @zaa, b129, (ix23 o34), (ixo23 o61), (ix24 o68), (ixo24 o70), (ixo24 o75), (ix22 o82), (ixo22 o84), e115, e116, e117, e118, e119, e120, e121, d130, d131, nm, seval]
       refine ktree0 zaf ?_
       try simp only [vz, @zaa, @argsTm6, tyf, @zaa, b129, (ix23 o34), (ixo23 o61), (ix24 o68), (ixo24 o70), (ixo24 o75), (ix22 o82), (ixo22 o84), e115, e116, e117, e118, e119, e120, e121, d130, d131, nm, seval]
       obtain rfl := kF _ h
       exact zac Tryz.results17 rfl
      simp only [d29, hs] at h
      have b132 := And.intro d23 (And.intro d24 (And.intro d25 (And.intro d26 (And.intro d27 (And.intro d28 d29)))))
      simp only [vz, @zaa, @argsTm6, tyf, @zaa, b132, e16, e17, e18, e19, e20, e21, e22, nm, seval]
      refine ktree0 zaf ?_
      try simp only [vz, @zaa, @argsTm6, tyf, @zaa, b132, e16, e17, e18, e19, e20, e21, e22, nm, seval]
      obtain rfl := kF _ h
      exact zac Tryz.results17 rfl
     simp only [d28, hs] at h
     simp only [vz, @zaa, @argsTm6, tyf, @zaa, e16, e17, e18, e19, e20, e21, e22, d23, d24, d25, d26, d27, d28, nm, seval]
     refine ktree0 zaf ?_
     try simp only [vz, @zaa, @argsTm6, tyf, @zaa, e16, e17, e18, e19, e20, e21, e22, d23, d24, d25, d26, d27, d28, nm, seval]
     obtain rfl := kF _ h
     exact zac Tryz.results17 rfl
    simp only [d27, hs] at h
    simp only [vz, @zaa, @argsTm6, tyf, @zaa, e16, e17, e18, e19, e20, e21, e22, d23, d24, d25, d26, d27, nm, seval]
    refine ktree0 zaf ?_
    try simp only [vz, @zaa, @argsTm6, tyf, @zaa, e16, e17, e18, e19, e20, e21, e22, d23, d24, d25, d26, d27, nm, seval]
    obtain rfl := kF _ h
    exact zac Tryz.results17 rfl
   simp only [d26, hs] at h
   simp only [vz, @zaa, @argsTm6, tyf, @zaa, e16, e17, e18, e19, e20, e21, e22, d23, d24, d25, d26, nm, seval]
   refine ktree0 zaf ?_
   try simp only [vz, @zaa, @argsTm6, tyf, @zaa, e16, e17, e18, e19, e20, e21, e22, d23, d24, d25, d26, nm, seval]
   obtain rfl := kF _ h
   exact zac Tryz.results17 rfl
  simp only [d25, hs] at h
  simp only [vz, @zaa, @argsTm6, tyf, @zaa, e16, e17, e18, e19, e20, e21, e22, d23, d24, d25, nm, seval]
  refine ktree0 zaf ?_
  try simp only [vz, @zaa, @argsTm6, tyf, @zaa, e16, e17, e18, e19, e20, e21, e22, d23, d24, d25, nm, seval]
  obtain rfl := kF _ h
  exact zac Tryz.results17 rfl
 simp only [d24, hs] at h
 simp only [vz, @zaa, @argsTm6, tyf, @zaa, e16, e17, e18, e19, e20, e21, e22, d23, d24, nm, seval]
 refine ktree0 zaf ?_
 try simp only [vz, @zaa, @argsTm6, tyf, @zaa, e16, e17, e18, e19, e20, e21, e22, d23, d24, nm, seval]
 obtain rfl := kF _ h
 exact zac Tryz.results17 rfl
end Go.V
end
section
namespace Go.V
open Go
theorem zash {c k r : Int} (h0 : 0 ≤ c) (h1 : 1 ≤ k) (h2 : k ≤ 11) : rd c (k + 1) r ≤ rd c k r := by
 unfold rd
 rcases (show k = 1 ∨ k = 2 ∨ k = 3 ∨ k = 4 ∨ k = 5 ∨ k = 6 ∨ k = 7 ∨ k = 8 ∨ k = 9 ∨ k = 10 ∨ k = 11 by omega) with h | h | h | h | h | h | h | h | h | h | h <;> subst h <;> (repeat' split) <;> omega
theorem zacy {c r : Int} (h0 : 0 ≤ c) : ∀ (n : Nat) (u v : Int), 1 ≤ v → u = v + n → u ≤ 12 → rd c u r ≤ rd c v r
 | 0, u, v, _, h, _ => by rw [show u = v by omega]; exact Int.le_refl _
 | n + 1, u, v, h1, h, h2 => by
  have e1 := zacy (r := r) h0 n (u - 1) v h1 (by omega) (by omega)
  have e2 := zash (r := r) h0 (k := u - 1) (by omega) (by omega)
  rw [show u - 1 + 1 = u by omega] at e2
  exact Int.le_trans e2 e1
structure LeT (t u : GPriceTariff) : Prop where
 k : t.Kind = u.Kind
 c : t.Coins ≤ u.Coins
 n : u.Units ≤ t.Units
 r : t.Rule = u.Rule
 e : t.Each = u.Each
theorem zaud {t u : GPriceTariff} (ot : TOk t) (ou : TOk u) (h : LeT t u) {q p : Int} (h0 : 0 ≤ q) (h1 : q ≤ p) : rdT t q ≤ rdT u p := by
 unfold rdT
 have c0 := Int.mul_nonneg h0 ot.c.1
 have c1 : q * t.Coins ≤ p * u.Coins := Int.mul_le_mul h1 h.c ot.c.1 (by omega)
 rw [h.r]
 have e1 := zacy (r := u.Rule) c0 (t.Units - u.Units).toNat t.Units u.Units ou.u.1 (by have := h.n; omega) ot.u.2
 exact Int.le_trans e1 (zali c0 c1 ou.u.1 ou.u.2)
theorem zadd {t u : GPriceTariff} (ot : TOk t) (ou : TOk u) (h : LeT t u) {bs cs : List GPriceBoard} {hs gs : List Int} (f : Fit bs hs) (g : Fit cs gs) (e : leL (qsP t.Kind bs hs) (qsP t.Kind cs gs)) : paidP t bs hs ≤ paidP u cs gs := by
 unfold paidP partsP
 rw [← h.e, ← h.k]
 cases t.Each with
 | true =>
  simp only [if_true]
  exact zvl (zadr e fun a ha b hab hb => zaud ot ou h (f.q _ a ha).1 hab)
 | false =>
  simp only [Bool.false_eq_true, if_false]
  exact zaud ot ou h (zaef f).1 (zvl e)
theorem zafs : ∀ l : List Int, leL l l
 | [] => trivial
 | a :: l => ⟨Int.le_refl _, zafs l⟩
theorem zajy (k : Int) : ∀ {bs : List GPriceBoard} {hs : List Int} (i : Nat) {b c : GPriceBoard} {h g : Int}, hs.length = bs.length → bs[i]? = some b → hs[i]? = some h → b.Letters ≤ c.Letters → b.Feet ≤ c.Feet → h ≤ g → leL (qsP k bs hs) (qsP k (bs.set i c) (hs.set i g))
 | [], _, i, _, _, _, _, _, e, _, _, _, _ => by simp at e
 | _ :: _, [], i, _, _, _, _, hl, _, _, _, _, _ => by simp at hl
 | x :: bs, y :: hs, 0, b, c, h, g, _, e1, e2, l1, l2, l3 => by
  simp only [List.getElem?_cons_zero, Option.some.injEq] at e1 e2
  subst e1 e2
  refine ⟨?_, zafs _⟩
  unfold qtyP
  repeat' split
  all_goals omega
 | x :: bs, y :: hs, i + 1, b, c, h, g, hl, e1, e2, l1, l2, l3 => ⟨Int.le_refl _, zajy k i (by simpa using hl) (by simpa using e1) (by simpa using e2) l1 l2 l3⟩
theorem zako : ∀ {bs : List GPriceBoard} {hs : List Int} (i : Nat) {c : GPriceBoard} {g : Int}, hrsB bs hs = true → inB c.Hours.Low c.Hours.High g = true → hrsB (bs.set i c) (hs.set i g) = true
 | [], [], _, _, _, _, _ => rfl
 | b :: bs, h :: hs, 0, c, g, e, hc => by
  simp only [hrsB, Bool.and_eq_true] at e
  show (inB c.Hours.Low c.Hours.High g && hrsB bs hs) = true
  rw [hc, e.2]; rfl
 | b :: bs, h :: hs, i + 1, c, g, e, hc => by
  simp only [hrsB, Bool.and_eq_true] at e
  show (inB b.Hours.Low b.Hours.High h && hrsB (bs.set i c) (hs.set i g)) = true
  rw [e.1, zako i e.2 hc]; rfl
theorem zamv (bs : List GPriceBoard) (i : Nat) (c : GPriceBoard) : lows (bs.set i c) = (lows bs).set i c.Hours.Low := by
 unfold lows; rw [List.map_set]
theorem zajk (bs : List GPriceBoard) (i : Nat) (c : GPriceBoard) : highs (bs.set i c) = (highs bs).set i c.Hours.High := by
 unfold highs; rw [List.map_set]
theorem zsz {α : Type} {xs : List α} {i : Int} {x : α} (h : getI xs i = some x) : xs[i.toNat]? = some x := by
 have := (zaag h).1
 unfold getI at h
 rwa [if_pos this] at h
theorem zaei {α : Type} {xs : List α} {i : Int} {x y : α} (h : getI xs i = some x) : getI (xs.set i.toNat y) i = some y := by
 have := zaag h
 unfold getI
 rw [if_pos this.1, List.getElem?_set_self (by omega)]
theorem zamm {α : Type} {xs : List α} (h : 1 ≤ xs.length) : neB xs = true := by
 cases xs with
 | nil => simp at h
 | cons => rfl
theorem room40 {n : Nat} (h : n ≤ 1000) : roomOk 40 n = true := by simp [roomOk]; omega
theorem zsj (s : GPriceSheet) (n : Int) (hs : List Int) (i by' less : Int) (ok : lenOk s.Offs = true ∧ lenOk s.Boards = true ∧ lenOk s.Tariffs = true) (hl : lenOk hs = true) : zgi s n hs i by' less = some true := by
 unfold zgi
 rcases zmr s n hs with h | ⟨h, a⟩
 ·rw [h]; rfl
 rw [h]
 simp only [Option.bind_some, cond_true]
 by_cases i0 : i < 0
 ·rw [decide_eq_true i0]; rfl
 by_cases i1 : i ≥ (s.Boards.length : Int)
 ·rw [decide_eq_false i0, decide_eq_true i1]; rfl
 by_cases b0 : by' < 0
 ·rw [decide_eq_false i0, decide_eq_false i1, decide_eq_true b0]; rfl
 by_cases b1 : by' > 500
 ·rw [decide_eq_false i0, decide_eq_false i1, decide_eq_false b0, decide_eq_true b1]; rfl
 by_cases l0 : less < 0
 ·rw [decide_eq_false i0, decide_eq_false i1, decide_eq_false b0, decide_eq_false b1, decide_eq_true l0]; rfl
 by_cases l1 : less > 12
 ·rw [decide_eq_false i0, decide_eq_false i1, decide_eq_false b0, decide_eq_false b1, decide_eq_false l0, decide_eq_true l1]; rfl
 rw [decide_eq_false i0, decide_eq_false i1, decide_eq_false b0, decide_eq_false b1, decide_eq_false l0, decide_eq_false l1]
 obtain ⟨t, ht, htm, ot⟩ := zld a.sheet a.tar
 have hn := znl a.sheet
 have hf := zja a.sheet a.hrs
 have hlen := hf.len
 obtain ⟨b, hb, hbm⟩ := zlw (xs := s.Boards) (i := i) (by omega) (by omega)
 obtain ⟨g, hg, hgm⟩ := zlw (xs := hs) (i := i) (by omega) (by omega)
 have ob := zml a.sheet b hbm
 have hbB := zafo a.sheet b hbm
 obtain ⟨oL, oF, oH⟩ := ob
 obtain ⟨oK, oC, oU, oR⟩ := id ot
 have hgh : b.Hours.Low ≤ g ∧ g ≤ b.Hours.High := by
  have key : ∀ {bs : List GPriceBoard} {hs : List Int} (k : Nat), hrsB bs hs = true → bs[k]? = some b → hs[k]? = some g → b.Hours.Low ≤ g ∧ g ≤ b.Hours.High := by
   intro bs
   induction bs with
   | nil => intro hs k _ e; simp at e
   | cons x bs ih =>
    intro hs k e e1 e2
    cases hs with
    | nil => simp at e2
    | cons y hs =>
     simp only [hrsB, Bool.and_eq_true, zic] at e
     cases k with
     | zero =>
      simp only [List.getElem?_cons_zero, Option.some.injEq] at e1 e2
      subst e1 e2
      exact e.1
     | succ k => exact ih k e.2 (by simpa using e1) (by simpa using e2)
  exact key _ a.hrs (zsz hb) (zsz hg)
 simp only [List.nil_append, cond_false, zamm hn.1.1, zamm hn.2.1, zamm (xs := hs) (by omega), room40 (show s.Boards.length ≤ 1000 by omega), room40 (show s.Tariffs.length ≤ 1000 by omega), zhg (show hs.length ≤ 1000 by omega), cond_true, hb, hg, ht, Option.bind_some, zgz, zaei ht, List.set_set]
 rw [zcq (n := 40 - b.Hours.High) (by omega) (by omega)]
 obtain ⟨d, hd⟩ : ∃ d, d = (if 40 - b.Hours.High < by' then 40 - b.Hours.High else by') := ⟨_, rfl⟩
 have hd1 : 0 ≤ d ∧ b.Hours.High + d ≤ 40 := by rw [hd]; split <;> omega
 rw [← hd, zcq (n := b.Hours.Low + d) (by omega) (by omega), zcq (n := b.Hours.High + d) (by omega) (by omega), zcq (n := b.Letters + by') (by omega) (by omega), zcq (n := b.Feet + by') (by omega) (by omega), zcq (n := t.Coins + by') (by omega) (by omega), zcq (n := t.Units - less) (by omega) (by omega), zcq (n := g + d) (by omega) (by omega)]
 obtain ⟨c, hc⟩ : ∃ c : GPriceBoard, c = GPriceBoard.mk (if b.Letters + by' < 60 then b.Letters + by' else 60) (if b.Feet + by' < 40 then b.Feet + by' else 40) (GSpan.mk (b.Hours.Low + d) (b.Hours.High + d)) b.Owner := ⟨_, rfl⟩
 obtain ⟨u, hu⟩ : ∃ u : GPriceTariff, u = GPriceTariff.mk t.Kind (if t.Coins + by' < 500 then t.Coins + by' else 500) (if 1 < t.Units - less then t.Units - less else 1) t.Rule t.Each := ⟨_, rfl⟩
 rw [← hc, ← hu]
 have c1 : b.Letters ≤ c.Letters ∧ c.Letters ≤ 60 := by rw [hc]; simp only; split <;> omega
 have c2 : b.Feet ≤ c.Feet ∧ c.Feet ≤ 40 := by rw [hc]; simp only; split <;> omega
 have c3 : c.Hours.Low = b.Hours.Low + d := by rw [hc]
 have c4 : c.Hours.High = b.Hours.High + d := by rw [hc]
 have c5 : c.Owner = b.Owner := by rw [hc]
 have u1 : t.Coins ≤ u.Coins ∧ u.Coins ≤ 500 := by rw [hu]; simp only; split <;> omega
 have u2 : 1 ≤ u.Units ∧ u.Units ≤ t.Units := by rw [hu]; simp only; split <;> omega
 have ou : TOk u := ⟨by rw [hu]; exact oK, ⟨by omega, u1.2⟩, ⟨u2.1, by omega⟩, by rw [hu]; exact oR⟩
 have le : LeT t u := ⟨by rw [hu], u1.1, u2.2, by rw [hu], by rw [hu]⟩
 have cB : boardB c = true := by
  simp only [boardB, Bool.and_eq_true, zic] at hbB ⊢
  obtain ⟨g1, g2, g3, g4, g5⟩ := hbB
  rw [c3, c4]
  refine ⟨by omega, by omega, by omega, by omega, ?_⟩
  split at g5 <;> split <;> omega
 have uB : tariffB u = true := by
  simp only [tariffB, Bool.and_eq_true, zic]
  exact ⟨ou.k, ou.r, ou.c, ou.u⟩
 clear hc hu
 obtain ⟨s2, hs2⟩ : ∃ s2 : GPriceSheet, s2 = ⟨s.Offs, s.Boards.set i.toNat c, s.Tariffs.set n.toNat u⟩ := ⟨_, rfl⟩
 have sB : s2.Boards = s.Boards.set i.toNat c := by rw [hs2]
 have sT : s2.Tariffs = s.Tariffs.set n.toNat u := by rw [hs2]
 have sO : s2.Offs = s.Offs := by rw [hs2]
 have hsh : sheetB s2 = true := by
  have h := a.sheet
  simp only [sheetB, Bool.and_eq_true, List.all_eq_true, sB, sT, sO, List.length_set] at h ⊢
  refine ⟨h.1, ⟨h.2.1.1, ?_⟩, h.2.2.1, ?_⟩
  ·intro x hx
   rcases List.mem_or_eq_of_mem_set hx with hx | rfl
   ·exact h.2.1.2 x hx
   ·have := h.2.1.2 b hbm
    simp only [ownB, Bool.and_eq_true] at this ⊢
    rw [c5]
    exact ⟨cB, this.2⟩
  ·intro x hx
   rcases List.mem_or_eq_of_mem_set hx with hx | rfl
   ·exact h.2.2.2 x hx
   ·exact uB
 have a2 : Asked s2 n (hs.set i.toNat (g + d)) := by
  refine ⟨⟨by rw [sO]; exact a.ok.o, zez (by rw [sB, List.length_set]; omega), zez (by rw [sT, List.length_set]; omega)⟩, hsh, ?_, ?_⟩
  ·have := a.tar
   unfold tarB at this ⊢
   rw [sT, List.length_set]; exact this
  ·rw [sB]
   exact zako _ a.hrs (by rw [zic, c3, c4]; omega)
 have hu2 : getI s2.Tariffs n = some u := by rw [sT]; exact zaei ht
 have f2 := zja a2.sheet a2.hrs
 have fl := zja a.sheet a.lows.hrs
 have fh := zja a.sheet a.highs.hrs
 have fl2 := zja a2.sheet a2.lows.hrs
 have fh2 := zja a2.sheet a2.highs.hrs
 rw [← hs2, zkz a ht ot, zkz a2 hu2 ou, zwq a.ok a.sheet a.tar ht ot, zwq a2.ok a2.sheet a2.tar hu2 ou]
 have gb := zsz hb
 have hlow : (lows s.Boards)[i.toNat]? = some b.Hours.Low := by unfold lows; rw [List.getElem?_map, gb]; rfl
 have hhigh : (highs s.Boards)[i.toNat]? = some b.Hours.High := by unfold highs; rw [List.getElem?_map, gb]; rfl
 have m1 : paidP t s.Boards hs ≤ paidP u s2.Boards (hs.set i.toNat (g + d)) := by
  refine zadd ot ou le hf f2 ?_
  rw [sB]; exact zajy _ _ hlen gb (zsz hg) c1.1 c2.1 (by omega)
 have m2 : paidP t s.Boards (lows s.Boards) ≤ paidP u s2.Boards (lows s2.Boards) := by
  refine zadd ot ou le fl fl2 ?_
  rw [sB, zamv]; exact zajy _ _ fl.len gb hlow c1.1 c2.1 (by omega)
 have m3 : paidP t s.Boards (highs s.Boards) ≤ paidP u s2.Boards (highs s2.Boards) := by
  refine zadd ot ou le fh fh2 ?_
  rw [sB, zajk]; exact zajy _ _ fh.len gb hhigh c1.1 c2.1 (by omega)
 have m0 := (zaqc ot hf).1
 simp only [Option.bind_some, beq_self_eq_true, cond_true]
 rw [decide_eq_true (show paidP t s.Boards hs ≥ 0 from m0), decide_eq_true m1, decide_eq_true m2, decide_eq_true m3]
 rfl
end Go.V
end
