/- Part of a proof: a logic of values by content, lifted functions, what follows. -/
import Derived.Test.YtgdgkkloccpbnaaGreatDoorTbf
import Derived.Test.YtgdgkkloccpbnaaGreatDoorTbh
import Derived.Test.YtgdgkkloccpbnaaGreatDoorTbj
import Derived.Test.YtgdgkkloccpbnaaGreatDoorTbi
set_option linter.all false
set_option maxRecDepth 4000
set_option maxHeartbeats 40000000
section
namespace Go.V
open Go Go.Proofs
def g_slices_Clone_Int (xs : List Int) : Option (List Int) := cond (neB xs) (cond (roomOk 8 xs.length) (some xs) none) none
theorem g_slices_Clone_Int_ok (xs R : List Int) (h : g_slices_Clone_Int xs = some R) : VPure Tryz.prog G0 119 [.sl (cellsL eI xs) xs.length false] (.own (cellsL eI R) R.length 1) := by
 unfold g_slices_Clone_Int at h
 cases hn : neB xs with
 | false => rw [hn] at h; cases h
 | true =>
 cases hr : roomOk 8 xs.length with
 | false => rw [hn, hr] at h; cases h
 | true =>
 rw [hn, hr] at h
 simp only [cond_true, Option.some.injEq] at h
 subst h
 have hc : cellsL eI xs ≠ [] := by
  cases xs with
  | nil => cases hn
  | cons a l => intro hh; cases hh
 have hnil : ∀ (H : Nat → Option VObj) (x y : Operand), binV Tryz.prog H .eql 23 x y (.sl (cellsL eI xs) xs.length false) (.lit (.slice none 0 0)) = some (.lit (.bool false)) := fun H x y => binV_slNil Tryz.underlying23 hc
 have hb : vbuildSlice Tryz.prog 23 0 [] = some ([], 1) := by kernel_rfl
 refine VPure.run mixed Tryz.call119 Tryz.func119 rfl (by simp [Tryz.ntmps119]; kernel_rfl) ?_
 simp only [vz, tyf, hnil, hb, List.map_nil, seval]
 refine k_appS (w := 1) (enc := eI) (xs := ([] : List Int)) (ys := xs) (el := some 3) (fun _ => rfl) lf23 ao23 Tryz.underlying23 rfl hn (by rw [List.nil_append]; exact hr) ?_
 simp only [vz, tyf, List.nil_append, seval]
 refine ⟨rfl, .ref 5 0 xs.length 1 xs.length, by simp [Tryz.results119, resV, resL, resV1, upd], (cellsL eI xs).length + 1, 5, _, cellsL eI xs, ⟨_, rfl⟩, by simp only [updH_apply, without_apply, seval] <;> rfl, seal_tree _ _ (eI_ok.treeL xs) (Nat.lt_succ_self _)⟩
end Go.V
end
section
namespace Go.V
open Go Go.Proofs
def g_coat_sums_least (x0_x : Gcoatsums) (x1_from : Int) (x2_to : Int) : Option (Int) := Option.bind (getI x0_x.lows x2_to) (fun x1 => Option.bind (getI x0_x.lows x1_from) (fun x2 => some (IntKind.i64.wrap (x1 - x2))))
theorem g_coat_sums_least_ok (x0_x : Gcoatsums) (x1_from : Int) (x2_to : Int) (R : Int) (h : g_coat_sums_least x0_x x1_from x2_to = some R) : VPure Tryz.prog G0 121 [.agg (cGcoatsums x0_x), .lit (.int .i64 x1_from), .lit (.int .i64 x2_to)] (.tree (.lit (.int .i64 R))) := by
 refine VPure.runR mixed Tryz.call121 Tryz.func121 rfl (by simp [Tryz.ntmps121]; kernel_rfl) ?_
 obtain ⟨KF, h, kF, kN⟩ := fun_intro h
 simp only [g_coat_sums_least] at h
 simp only [vz, tyf, nm, seval]
 refine cwp_drwQF (fun tm => tm 1 = .lit (.int .i64 x1_from) ∧ tm 2 = .lit (.int .i64 x2_to) ∧ tm 3 = .ptr 0 0 ∧ True) (by refine ⟨?_, ?_, ?_, trivial⟩ <;> first | (simp only [ua, nm, seval] <;> rfl) | rfl) ?_
 rintro tm ⟨e3, e4, e5, _⟩
 rcases o7 : (getI x0_x.lows x2_to) with _ | x6
 ·simp only [o7, hs] at h
  exact absurd h kN
 simp only [o7, hs] at h
 rcases o9 : (getI x0_x.lows x1_from) with _ | x8
 ·simp only [o9, hs] at h
  exact absurd h kN
 simp only [o9, hs] at h
 try simp only [vz, tyf, e3, e4, e5, (ix23 o7), (ix23 o9), nm, seval]
 refine opd_ret (x := (.lit (.int .i64 (IntKind.i64.wrap (x6 - x8))))) (by first | (simp only [Tryz.results121, resV, resL, resV1, tgt_ptr, tgt_tp, uw, cr, tyf, (ix23 o7), (ix23 o9), nm, seval] <;> rfl) | rfl) ?_
 obtain rfl := kF _ h
 refine rr_tree ?_ ?_
 ·simp only [tre, tytre, Bool.and_self]
 ·first | (simp only [outV, uw, showV_ref, cr, tyf, nrm, tynrm, e3, e4, e5, (ix23 o7), (ix23 o9), nm, seval] <;> rfl) | rfl
end Go.V
end
section
namespace Go.V
open Go Go.Proofs
def g_coat_sums_greatest (x0_x : Gcoatsums) (x1_from : Int) (x2_to : Int) : Option (Int) := Option.bind (getI x0_x.highs x2_to) (fun x1 => Option.bind (getI x0_x.highs x1_from) (fun x2 => some (IntKind.i64.wrap (x1 - x2))))
theorem g_coat_sums_greatest_ok (x0_x : Gcoatsums) (x1_from : Int) (x2_to : Int) (R : Int) (h : g_coat_sums_greatest x0_x x1_from x2_to = some R) : VPure Tryz.prog G0 112 [.agg (cGcoatsums x0_x), .lit (.int .i64 x1_from), .lit (.int .i64 x2_to)] (.tree (.lit (.int .i64 R))) := by
 refine VPure.runR mixed Tryz.call112 Tryz.func112 rfl (by simp [Tryz.ntmps112]; kernel_rfl) ?_
 obtain ⟨KF, h, kF, kN⟩ := fun_intro h
 simp only [g_coat_sums_greatest] at h
 simp only [vz, tyf, nm, seval]
 refine cwp_drwQF (fun tm => tm 1 = .lit (.int .i64 x1_from) ∧ tm 2 = .lit (.int .i64 x2_to) ∧ tm 3 = .ptr 0 0 ∧ True) (by refine ⟨?_, ?_, ?_, trivial⟩ <;> first | (simp only [ua, nm, seval] <;> rfl) | rfl) ?_
 rintro tm ⟨e3, e4, e5, _⟩
 rcases o7 : (getI x0_x.highs x2_to) with _ | x6
 ·simp only [o7, hs] at h
  exact absurd h kN
 simp only [o7, hs] at h
 rcases o9 : (getI x0_x.highs x1_from) with _ | x8
 ·simp only [o9, hs] at h
  exact absurd h kN
 simp only [o9, hs] at h
 try simp only [vz, tyf, e3, e4, e5, (ix23 o7), (ix23 o9), nm, seval]
 refine opd_ret (x := (.lit (.int .i64 (IntKind.i64.wrap (x6 - x8))))) (by first | (simp only [Tryz.results112, resV, resL, resV1, tgt_ptr, tgt_tp, uw, cr, tyf, (ix23 o7), (ix23 o9), nm, seval] <;> rfl) | rfl) ?_
 obtain rfl := kF _ h
 refine rr_tree ?_ ?_
 ·simp only [tre, tytre, Bool.and_self]
 ·first | (simp only [outV, uw, showV_ref, cr, tyf, nrm, tynrm, e3, e4, e5, (ix23 o7), (ix23 o9), nm, seval] <;> rfl) | rfl
end Go.V
end
section
namespace Go.V
open Go Go.Proofs
def g_coat_sums_isLast (x0_x : Gcoatsums) (x1_coat : Int) : Option (Bool) := some (x1_coat == (IntKind.i64.wrap ((List.length x0_x.CoatSheet.Coats : Int) - 1)))
theorem g_coat_sums_isLast_ok (x0_x : Gcoatsums) (x1_coat : Int) (R : Bool) (h : g_coat_sums_isLast x0_x x1_coat = some R) : VPure Tryz.prog G0 157 [.agg (cGcoatsums x0_x), .lit (.int .i64 x1_coat)] (.tree (.lit (.bool R))) := by
 refine VPure.runR mixed Tryz.call157 Tryz.func157 rfl (by simp [Tryz.ntmps157]; kernel_rfl) ?_
 obtain ⟨KF, h, kF, kN⟩ := fun_intro h
 simp only [g_coat_sums_isLast] at h
 try simp only [vz, tyf, nm, seval]
 obtain rfl := kF _ h
 exact opd_bool Tryz.results157 rfl
end Go.V
end
section
namespace Go.V
open Go Go.Proofs
end Go.V
end
section
namespace Go.V
open Go Go.Proofs
end Go.V
end
section
namespace Go.V
open Go Go.Proofs
theorem g_coat_sums_atWorst_ok (x0_x : Gcoatsums) : VPure Tryz.prog G0 83 [.agg (cGcoatsums x0_x)] (.tree (.agg ([VV.lit Value.nilFunc] ++ [VV.fn (Fn.func 121) [.agg (cGcoatsums x0_x)] []] ++ [VV.fn (Fn.func 112) [.agg (cGcoatsums x0_x)] []]))) := by
 refine VPure.runR mixed Tryz.call83 Tryz.func83 rfl (by simp [Tryz.ntmps83]; kernel_rfl) ?_
 try simp only [vz, tyf, nm, seval]
 refine opd_ret (x := (.agg ([VV.lit Value.nilFunc] ++ [VV.fn (Fn.func 121) [.agg (cGcoatsums x0_x)] []] ++ [VV.fn (Fn.func 112) [.agg (cGcoatsums x0_x)] []]))) (by first | (simp only [Tryz.results83, resV, resL, resV1, tgt_ptr, tgt_tp, uw, cr, tyf, nm, seval] <;> rfl) | rfl) ?_
 refine rr_tree ?_ ?_
 ·simp only [tre, tytre, tree_fn, cellsL_nil, mV_app, mV_app0, Bool.and_self]
 ·first | (simp only [outV, uw, showV_ref, cr, tyf, nrm, tynrm, showV_fn, normV_fn, normV_nilF, nm, seval] <;> rfl) | rfl
end Go.V
end
section
namespace Go.V
open Go Go.Proofs
end Go.V
end
section
namespace Go.V
open Go Go.Proofs
end Go.V
end
section
namespace Go.V
open Go Go.Proofs
end Go.V
end
section
namespace Go.V
open Go Go.Proofs
end Go.V
end
section
namespace Go.V
open Go Go.Proofs
end Go.V
end
section
namespace Go.V
open Go Go.Proofs
end Go.V
end
section
namespace Go.V
open Go Go.Proofs
end Go.V
end
section
namespace Go.V
open Go Go.Proofs
end Go.V
end
section
namespace Go.V
open Go Go.Proofs
end Go.V
end
section
namespace Go.V
open Go
def SI (w : List Int) (k : Int) : Int := (w.take k.toNat).sum
structure WOk (w : List Int) : Prop where
 v : ∀ x ∈ w, 0 ≤ x ∧ x ≤ 24
 l : w.length ≤ 12
theorem sum_bd : ∀ (w : List Int), (∀ x ∈ w, 0 ≤ x ∧ x ≤ 24) → 0 ≤ w.sum ∧ w.sum ≤ 24 * w.length
 | [], _ => by simp
 | x :: w, h => by
  have h1 := h x (by simp)
  have h2 := sum_bd w (fun y hy => h y (by simp [hy]))
  simp only [List.sum_cons, List.length_cons]
  omega
theorem SI_bd {w : List Int} (h : WOk w) (k : Int) : 0 ≤ SI w k ∧ SI w k ≤ 288 := by
 have h1 := sum_bd (w.take k.toNat) (fun x hx => h.v x (List.mem_of_mem_take hx))
 have h2 : (w.take k.toNat).length ≤ 12 := by rw [List.length_take]; have := h.l; omega
 unfold SI
 omega
theorem sumOf_l0 : ∀ (p : List Int) (c acc : Int), (∀ v ∈ p, 0 ≤ v ∧ v ≤ 24) → 0 ≤ acc → acc + 24 * p.length < 9223372036854775808 → g_sum_Of_l0 p c acc = some (.go (acc + p.sum))
 | [], _, _, _, _, _ => by simp [g_sum_Of_l0]
 | e :: p, c, acc, h, h0, h1 => by
  have h2 := h e (by simp)
  simp only [List.length_cons] at h1
  simp only [g_sum_Of_l0]
  rw [wrap_eq (by omega) (by omega), sumOf_l0 p (c + 1) (acc + e) (fun v hv => h v (by simp [hv])) (by omega) (by omega), List.sum_cons]
  congr 2
  omega
theorem sumOf_eq {p : List Int} (h : ∀ v ∈ p, 0 ≤ v ∧ v ≤ 24) (hl : p.length ≤ 12) : g_sum_Of p = some p.sum := by
 unfold g_sum_Of
 rw [lenOk_of (by omega), sumOf_l0 p 0 0 h (Int.le_refl _) (by omega)]
 simp [lbind]
def lowsL (d : List GSpan) : List Int := d.map (·.Low)
def highsL (d : List GSpan) : List Int := d.map (·.High)
theorem room_small {n : Nat} (h : n ≤ 1000) : roomOk 8 n = true := by simp [roomOk]; omega
theorem summed_l0 : ∀ (p : List GSpan) (c : Int) (a b : List Int), a.length + p.length ≤ 500 → b.length + p.length ≤ 500 → g_coat_summed_l0 p c a b = some (.go (a ++ lowsL p, b ++ highsL p))
 | [], _, a, b, _, _ => by simp [g_coat_summed_l0, lowsL, highsL]
 | e :: p, c, a, b, h1, h2 => by
  simp only [List.length_cons] at h1 h2
  simp only [g_coat_summed_l0]
  rw [room_small (by simp; omega), room_small (by simp; omega), cond_true, cond_true, summed_l0 p (c + 1) _ _ (by simp; omega) (by simp; omega)]
  simp [lowsL, highsL]
def preL (w : List Int) (c k : Nat) : List Int := (List.range' c k).map fun j => (w.take j).sum
theorem preL_length {w : List Int} {c k : Nat} : (preL w c k).length = k := by simp [preL]
theorem getI_pre {w : List Int} {n : Nat} {k : Int} (h0 : 0 ≤ k) (h1 : k ≤ n) : getI (preL w 0 (n + 1)) k = some (SI w k) := by
 unfold getI preL SI
 rw [if_pos h0]
 simp only [List.getElem?_map]
 rw [List.getElem?_range' (by omega)]
 simp
theorem summed_l1 {c1 : List Int × List Int} {n : Nat} (hn : 0 < n) (h12 : n ≤ 12) (l1 : c1.1.length = n) (l2 : c1.2.length = n) (v1 : ∀ v ∈ c1.1, 0 ≤ v ∧ v ≤ 24) (v2 : ∀ v ∈ c1.2, 0 ≤ v ∧ v ≤ 24) : ∀ (k c : Nat) (a b : List Int), c + k = n + 1 → a.length = c → b.length = c →
  g_coat_summed_l1 c1 k (c : Int) a b = some (.go (a ++ preL c1.1 c k, b ++ preL c1.2 c k))
 | 0, c, a, b, _, _, _ => by simp [g_coat_summed_l1, preL]
 | k + 1, c, a, b, h, ha, hb => by
  simp only [g_coat_summed_l1]
  have p1 : pfxOk c1.1.length (c : Int) = true := pfxOk_iff.2 ⟨by omega, by omega, by omega⟩
  have p2 : pfxOk c1.2.length (c : Int) = true := pfxOk_iff.2 ⟨by omega, by omega, by omega⟩
  have q1 : le1000 (c1.1.length * 1) = true := by simp [le1000]; omega
  have q2 : le1000 (c1.2.length * 1) = true := by simp [le1000]; omega
  rw [p1, p2, q1, q2, sumOf_eq (p := c1.1.take (Int.toNat c)) (fun v hv => v1 v (List.mem_of_mem_take hv)) (by rw [List.length_take]; omega), sumOf_eq (p := c1.2.take (Int.toNat c)) (fun v hv => v2 v (List.mem_of_mem_take hv)) (by rw [List.length_take]; omega)]
  simp only [cond_true, Option.bind_some]
  rw [room_small (by simp; omega), room_small (by simp; omega), cond_true, cond_true]
  have := summed_l1 hn h12 l1 l2 v1 v2 k (c + 1) (a ++ [(c1.1.take (Int.toNat c)).sum]) (b ++ [(c1.2.take (Int.toNat c)).sum]) (by omega) (by simp [ha]) (by simp [hb])
  rw [show ((c + 1 : Nat) : Int) = (c : Int) + 1 by omega] at this
  rw [this]
  simp [preL, List.range'_succ]
structure DOk (d : List GSpan) : Prop where
 s : ∀ x ∈ d, spanB x = true
 l : 1 ≤ d.length ∧ d.length ≤ 12
theorem span_iff {x : GSpan} : spanB x = true ↔ 0 ≤ x.Low ∧ x.Low ≤ x.High ∧ x.High ≤ 24 := by
 unfold spanB
 simp only [Bool.and_eq_true, inB_iff, decide_eq_true_eq]
 omega
theorem DOk.low {d : List GSpan} (h : DOk d) : WOk (lowsL d) := ⟨fun x hx => by
 obtain ⟨y, hy, rfl⟩ := List.mem_map.1 hx
 have := span_iff.1 (h.s y hy)
 omega, by simp [lowsL]; exact h.l.2⟩
theorem DOk.high {d : List GSpan} (h : DOk d) : WOk (highsL d) := ⟨fun x hx => by
 obtain ⟨y, hy, rfl⟩ := List.mem_map.1 hx
 have := span_iff.1 (h.s y hy)
 omega, by simp [highsL]; exact h.l.2⟩
theorem neB_of {α : Type} {xs : List α} (h : 1 ≤ xs.length) : neB xs = true := by cases xs with | nil => simp at h | cons a p => rfl
theorem summed_eq {s : GCoatSheet} (h : DOk s.Dry) : g_coat_summed s = some ⟨s, preL (lowsL s.Dry) 0 (s.Dry.length + 1), preL (highsL s.Dry) 0 (s.Dry.length + 1)⟩ := by
 have hl := h.l
 unfold g_coat_summed
 rw [lenOk_of (by omega), summed_l0 _ _ _ _ (by simp; omega) (by simp; omega)]
 simp only [cond_true, lbind, List.nil_append]
 rw [neB_of (by simp [lowsL]; omega), neB_of (by simp [highsL]; omega), wrap_eq (by omega) (by omega), show boundOk ((s.Dry.length : Int) + 1) = true by simp [boundOk]; omega]
 have := summed_l1 (c1 := (lowsL s.Dry, highsL s.Dry)) (n := s.Dry.length) (by omega) hl.2 (by simp [lowsL]) (by simp [highsL]) h.low.v h.high.v (s.Dry.length + 1) 0 [] [] (by omega) rfl rfl
 rw [show Int.toNat ((s.Dry.length : Int) + 1 - 0) = s.Dry.length + 1 by omega]
 rw [show ((0 : Nat) : Int) = 0 from rfl] at this
 rw [this]
 simp only [cond_true, List.nil_append]
 rw [neB_of (by rw [preL_length]; omega), neB_of (by rw [preL_length]; omega)]
 rfl
def failW (lo hi : Int → Int) (n : Int) : List Int → List GCoatCoat → Int → Option (Int × Int)
 | a :: p, c :: cs, i => cond (decide (lo (p.headD n) - lo a < c.Need)) (some (i, 1)) (cond (!p.isEmpty && decide (hi (p.headD n) - hi a > c.Peel)) (some (i, 2)) (failW lo hi n p cs (i + 1)))
 | _, _, _ => none
theorem drop_len {α : Type} {l p : List α} {c : Nat} {a : α} (h : l.drop c = a :: p) : l.length = c + 1 + p.length := by
 have := congrArg List.length h
 rw [List.length_drop, List.length_cons] at this
 omega
section
variable {x : Gcoatsums} {lo hi : Int → Int} (hlo : ∀ k : Int, 0 ≤ k → k ≤ x.CoatSheet.Dry.length → getI x.lows k = some (lo k)) (hhi : ∀ k : Int, 0 ≤ k → k ≤ x.CoatSheet.Dry.length → getI x.highs k = some (hi k))
 (blo : ∀ k : Int, 0 ≤ lo k ∧ lo k ≤ 288) (bhi : ∀ k : Int, 0 ≤ hi k ∧ hi k ≤ 288) (hc : lenOk x.CoatSheet.Coats = true)
include hlo blo in
theorem least_eq {a b : Int} (ha : 0 ≤ a ∧ a ≤ x.CoatSheet.Dry.length) (hb : 0 ≤ b ∧ b ≤ x.CoatSheet.Dry.length) : g_coat_sums_least x a b = some (lo b - lo a) := by
 have h1 := blo a
 have h2 := blo b
 unfold g_coat_sums_least
 rw [hlo b hb.1 hb.2, hlo a ha.1 ha.2]
 simp only [Option.bind_some]
 rw [wrap_eq (by omega) (by omega)]
include hhi bhi in
theorem greatest_eq {a b : Int} (ha : 0 ≤ a ∧ a ≤ x.CoatSheet.Dry.length) (hb : 0 ≤ b ∧ b ≤ x.CoatSheet.Dry.length) : g_coat_sums_greatest x a b = some (hi b - hi a) := by
 have h1 := bhi a
 have h2 := bhi b
 unfold g_coat_sums_greatest
 rw [hhi b hb.1 hb.2, hhi a ha.1 ha.2]
 simp only [Option.bind_some]
 rw [wrap_eq (by omega) (by omega)]
include hc in
theorem isLast_eq {c : Int} {k : GCoatCoat} {cs : List GCoatCoat} {p : List Int} (h0 : 0 ≤ c) (h : x.CoatSheet.Coats.drop c.toNat = k :: cs) (hl : p.length = cs.length) : g_coat_sums_isLast x c = some p.isEmpty := by
 have h1 := lenOk_lt hc
 have h2 := drop_len h
 unfold g_coat_sums_isLast
 rw [wrap_eq (by omega) (by omega)]
 congr 1
 cases p with
 | nil =>
  simp only [List.length_nil] at hl
  rw [List.isEmpty_nil, beq_iff_eq]; omega
 | cons a p =>
  simp only [List.length_cons] at hl
  rw [List.isEmpty_cons]
  exact beq_false_of_ne (by omega)
include hlo hhi blo bhi hc in
include hlo hhi blo bhi hc in
end
end Go.V
end
section
namespace Go.V
open Go Go.Proofs
end Go.V
end
section
namespace Go.V
open Go Go.Proofs
end Go.V
end
section
namespace Go.V
open Go Go.Proofs
end Go.V
end
section
namespace Go.V
open Go Go.Proofs
end Go.V
end
section
namespace Go.V
open Go Go.Proofs
end Go.V
end
section
namespace Go.V
open Go Go.Proofs
end Go.V
end
section
namespace Go.V
open Go
structure VP (d : List GSpan) (cs : List GCoatCoat) (p : List Int) : Prop where
 dk : DOk d
 c : 1 ≤ cs.length ∧ cs.length ≤ 5
 l : p.length = cs.length
 u : upB p = true
 r : ∀ x ∈ p, 0 ≤ x ∧ x ≤ (d.length : Int) - 1
theorem VP.of {s : GCoatSheet} {p : List Int} (h1 : sheetB s = true) (h2 : planB s p = true) : VP s.Dry s.Coats p := by
 unfold sheetB incB at h1
 unfold planB incB at h2
 simp only [Bool.and_eq_true, inB_iff, List.all_eq_true, decide_eq_true_eq] at h1 h2
 refine ⟨⟨h1.1.2, by omega⟩, by omega, h2.1.1, h2.1.2.1, fun x hx => ?_⟩
 have := h2.1.2.2 x hx
 unfold dayB at this
 exact inB_iff.1 this
def worstW (d : List GSpan) (cs : List GCoatCoat) (p : List Int) : Option (Int × Int) := failW (SI (lowsL d)) (SI (highsL d)) d.length p cs 0
def sumsOf (s : GCoatSheet) : Gcoatsums := ⟨s, preL (lowsL s.Dry) 0 (s.Dry.length + 1), preL (highsL s.Dry) 0 (s.Dry.length + 1)⟩
theorem summed_of {s : GCoatSheet} (h : DOk s.Dry) : g_coat_summed s = some (sumsOf s) := summed_eq h
def sureB (d : List GSpan) (cs : List GCoatCoat) (p : List Int) : Bool := (worstW d cs p).isNone
section
variable {d : List GSpan} {cs0 : List GCoatCoat} {pl : List Int} (h : VP d cs0 pl) {w : List Int} (hw : WOk w) (hl : w.length = d.length)
include h hw hl in
include h hw hl in
include h hw hl in
end
theorem VP.pl {d : List GSpan} {cs : List GCoatCoat} {p : List Int} (h : VP d cs p) : lenOk p = true := by
 have := h.c; have := h.l
 exact lenOk_of (by omega)
def ptS (v : Int) : GSpan := ⟨v, v⟩
theorem DOk.pt {w : List Int} (h : WOk w) (h1 : 1 ≤ w.length) : DOk (w.map ptS) := ⟨fun x hx => by
 obtain ⟨v, hv, rfl⟩ := List.mem_map.1 hx
 have := h.v v hv
 exact span_iff.2 ⟨this.1, Int.le_refl _, this.2⟩, by simp; exact ⟨h1, h.l⟩⟩
end Go.V
end
section
set_option linter.unusedVariables false
set_option linter.defProp false
namespace Go.V
open Go
section
variable {P : Program} {H : Nat → Option VObj} {t : TypeId} {x y : Operand} {k : IntKind} {a b : Int}
end
end Go.V
end
section
set_option linter.unusedVariables false
namespace Go.V
open Go
section
variable {P : Program} {G : Glob} {ops : Array Oper} {base : Nat} {Q : VExit → St → Prop} {n : Nat}
end
end Go.V
namespace Go.V
open Go
section
variable {P : Program} {G : Glob} {ops : Array Oper} {base : Nat} {Q : VExit → St → Prop} {n : Nat}
end
section
variable {P : Program} {G : Glob} {ops : Array Oper} {base : Nat} {Q : VExit → St → Prop} {n : Nat} {i m b : Nat} {o : Oper} {l l2 : List Oper} {mk mE mL : List Bool} {tr : Tr} {K : Tr → St → Prop} {tm : Nat → VV} {H : Nat → Option VObj} {nx : Nat} {df : List VDef} {st : St} {rest : List (List Bool × Nat)}
end
end Go.V
namespace Go.V
set_option linter.defProp false
end Go.V
end
section
set_option linter.unusedVariables false
namespace Go.V
open Go
def gone (H H' : Nat → Option VObj) : Nat → Option VObj := fun β => if (H' β).isSome then none else H β
theorem SubHeap.gone (H H' : Nat → Option VObj) : SubHeap (gone H H') H := fun x o h => by
 unfold Go.V.gone at h
 split at h
 ·cases h
 ·exact h
def Frozen (H H' : Nat → Option VObj) (x y : VV) : Prop := y = x ∨ y = .any ∨ ∃ n, sealV (gone H H') n x = some y
def FrozenL (H H' : Nat → Option VObj) : List VV → List VV → Prop
 | [], [] => True
 | x :: xs, y :: ys => Frozen H H' x y ∧ FrozenL H H' xs ys
 | _, _ => False
def FrozenO (H H' : Nat → Option VObj) (o o' : VObj) : Prop := o' = o ∨ ∃ el cs cs', o = .cells el cs ∧ o' = .cells el cs' ∧ FrozenL H H' cs cs'
def Ctx.frz (c : Ctx) (H' : Nat → Option VObj) : Ctx := { c with H := H', A := fun b => c.A b ∨ ∃ β, c.live β ∧ (H' β).isSome = false ∧ c.φ β = b }
section
variable {c : Ctx} {W : World} {H' : Nat → Option VObj}
theorem abides_frz (hl : ∀ β, (H' β).isSome = true → c.live β) : Abides c W (c.frz H') W := ⟨fun _ h => .inl h, fun _ _ => rfl, fun _ h => h, fun β _ h => hl β h, fun _ _ _ => rfl, fun _ _ _ => rfl⟩
theorem ext_frz (hl : ∀ β, (H' β).isSome = true → c.live β) : Ext c W (c.frz H') W where
 A _ h := .inl h
 newA b h := h.imp id fun ⟨β, h1, _, e⟩ => .inr ⟨β, h1, e⟩
 used _ h := h
 live β _ h := hl β h
 φ _ _ _ := rfl
 room _ _ _ := rfl
 keep _ _ _ := rfl
 old x h _ := ⟨x, hl x h, rfl⟩
 size := Nat.le_refl _
 os := rfl
 tape := rfl
 output := rfl
theorem frozen_rep (s : Sim c W) (hl : ∀ β, (H' β).isSome = true → c.live β) {x y : VV} {v : Value} (h : Frozen c.H H' x y) (hr : Rep c W x v) : Rep (c.frz H') W y v := by
 rcases h with rfl | rfl | ⟨n, hn⟩
 ·exact Rep.abides (abides_frz hl) _ hr
 ·unfold Rep; trivial
 ·have h1 := (seal_rep s (SubHeap.gone c.H H') n).1 x v y hn hr
  refine Rep.abides (abides_of_p fun b hb => ?_) _ h1
  rcases hb with hb | ⟨β, hβ, e⟩
  ·exact .inl hb
  ·refine .inr ⟨β, ?_, ?_, e⟩
   ·unfold Go.V.gone at hβ
    split at hβ
    ·cases hβ
    ·exact hβ
   ·cases h0 : (H' β).isSome with
    | false => rfl
    | true => unfold Go.V.gone at hβ; rw [h0] at hβ; cases hβ
theorem frozenL_rep (s : Sim c W) (hl : ∀ β, (H' β).isSome = true → c.live β) : ∀ {xs ys : List VV} {l : List Value}, FrozenL c.H H' xs ys → RepL c W xs l → RepL (c.frz H') W ys l
 | [], [], _, _, h => h
 | _ :: _, _ :: _, _, ⟨h1, h2⟩, ⟨u, us, e, r1, r2⟩ => ⟨u, us, e, frozen_rep s hl h1 r1, frozenL_rep s hl h2 r2⟩
 | [], _ :: _, _, h, _ => h.elim
 | _ :: _, [], _, h, _ => h.elim
theorem FrozenL.length {H H' : Nat → Option VObj} : ∀ {xs ys : List VV}, FrozenL H H' xs ys → ys.length = xs.length
 | [], [], _ => rfl
 | _ :: _, _ :: _, h => by simp [FrozenL.length h.2]
 | [], _ :: _, h => h.elim
 | _ :: _, [], h => h.elim
theorem Sim.frz (s : Sim c W) (ho : ∀ β o', H' β = some o' → ∃ o, c.H β = some o ∧ FrozenO c.H H' o o') (hloop : ∀ x st pe tm ps asg bo df, H' x = some (.loop st pe tm ps asg bo df) → isDef H' df) : Sim (c.frz H') W := by
 have hl : ∀ β, (H' β).isSome = true → c.live β := by
  intro β h
  obtain ⟨o', h'⟩ := Option.isSome_iff_exists.1 h
  obtain ⟨o, h1, _⟩ := ho β o' h'
  simp [Ctx.live, h1]
 have ab : Abides c W (c.frz H') W := abides_frz hl
 refine ⟨fun x h => s.used x (hl x h), fun x ox hx => ?_, fun x h => s.lt x (hl x h), fun x h => ?_, fun x y hx hy e => s.inj x y (hl x hx) (hl y hy) e, fun b hb => ?_⟩
 ·have hx0 : H' x = some ox := hx
  obtain ⟨o, h1, hf⟩ := ho x ox hx0
  rcases hf with rfl | ⟨el, cs, cs', rfl, rfl, hcs⟩
  ·refine (s.obj x _ h1).abides ab (s.used x (hl x (by simp [hx0]))) (by simp [Ctx.live, Ctx.frz, hx0]) rfl ?_
   intro st pe tm ps asg bo df e'
   subst e'
   exact hloop x st pe tm ps asg bo df hx0
  ·obtain ⟨arr, e, a1, a2, a3, a4, a5⟩ := s.obj x _ h1
   exact ⟨arr, e, a1, a2, by rw [hcs.length]; exact a3, by rw [hcs.length]; exact frozenL_rep s hl hcs a4, a5⟩
 ·rintro (hA | ⟨β, h1, hn, e⟩)
  ·exact s.notA x (hl x h) hA
  ·have := s.inj β x h1 (hl x h) e
   subst this
   have h' : (H' β).isSome = true := h
   rw [h'] at hn; cases hn
 ·rcases hb with hA | ⟨β, h1, _, e⟩
  ·exact s.ltA b hA
  ·rw [← e]; exact s.lt β h1
end
theorem VWp.freeze {P : Program} {G : Glob} {n : Nat} {code : Code} {Q : VExit → St → Prop} {st : St} (H' : Nat → Option VObj) (tm' : Nat → VV) (ho : ∀ β o', H' β = some o' → ∃ o, st.H β = some o ∧ FrozenO st.H H' o o') (hloop : ∀ x s pe tm ps asg bo df, H' x = some (.loop s pe tm ps asg bo df) → isDef H' df)
  (htm : ∀ t, Frozen st.H H' (st.tm t) (tm' t)) (h : VWp P G n code Q ⟨tm', H', st.nx, st.df⟩) : VWp P G n code Q st := by
 intro ro c W a hro s hr hsz
 have ho' : ∀ β o', H' β = some o' → ∃ o, c.H β = some o ∧ FrozenO c.H H' o o' := by rw [hr.H]; exact ho
 have hl : ∀ β, (H' β).isSome = true → c.live β := by
  intro β h
  obtain ⟨o', h'⟩ := Option.isSome_iff_exists.1 h
  obtain ⟨o, h1, _⟩ := ho' β o' h'
  simp [Ctx.live, h1]
 have he : Ext c W (c.frz H') W := ext_frz hl
 have ab : Abides c W (c.frz H') W := abides_frz hl
 refine wpIn_mono (h ro (c.frz H') W a (hro.ext he) (s.frz ho' hloop) ⟨rfl, fun t => ?_, hr.nx, hr.df.abides ab, hr.G.abides ab⟩ hsz) fun _ _ _ hl => hl.of_ext he (fun β hb => .inl hb) (Nat.le_refl _)
 exact frozen_rep s hl (by rw [hr.H]; exact htm t) (hr.tm t)
theorem vwp_seq {P : Program} {G : Glob} (hm : P.follows .mixedOrders = true) {n : Nat} {x y : Code} {Q : VExit → St → Prop} {st : St} (ho : codeOk n x = true) (h : CWp P G n x (VExit.then (VWp P G n y Q) Q) st) : VWp P G n (.seq x y) Q st := VWp.seq (CWp_sound hm x _ st ho h)
theorem vwp_end {P : Program} {G : Glob} (hm : P.follows .mixedOrders = true) {n : Nat} {x : Code} {Q : VExit → St → Prop} {st : St} (ho : codeOk n x = true) (h : CWp P G n x Q st) : VWp P G n x Q st := CWp_sound hm x _ st ho h
theorem VOpen.runW {P : Program} {G : Glob} {f : FuncId} {fn : Func} {code : Code} {args : List VV} {H : Nat → Option VObj} {nx : Nat} {R Rp : VV → (Nat → Option VObj) → Nat → Prop}
  (hc : Callable P f) (hf : P.funcs[f]? = some fn) (hb : fn.body = some code) (hst : decide (args.length ≤ fn.ntmps) = true)
  (h : VWp P (G.at (some none)) fn.ntmps code (OpenPostD P G fn R Rp) { tm := argsTm args, H, nx, df := [] }) : VOpen P G f args H nx R Rp :=
 VOpen.of_bodyD hc hf hb (of_decide_eq_true hst) h
theorem VPure.runRW {P : Program} {G : Glob} {f : FuncId} {fn : Func} {code : Code} {args : List VV} {r : PRes} (hc : Callable P f) (hf : P.funcs[f]? = some fn) (hb : fn.body = some code)
  (hst : decide (args.length ≤ fn.ntmps) = true) (h : VWp P (G.at (some none)) fn.ntmps code (OpenPostD P G fn (RR r) (RPn r)) { tm := argsTm args, H := fun _ => none, nx := 0, df := [] }) : VPure P G f args r :=
 VPure.of_openR (VOpen.runW hc hf hb hst h)
end Go.V
end
section
set_option linter.unusedVariables false
namespace Go.V
open Go
theorem VOpen.freeze {P : Program} {G : Glob} {f : FuncId} {args args' : List VV} {H : Nat → Option VObj} {nx : Nat} {R Rp : VV → (Nat → Option VObj) → Nat → Prop} (H' : Nat → Option VObj) (ho : ∀ β o', H' β = some o' → ∃ o, H β = some o ∧ FrozenO H H' o o')
  (hloop : ∀ x s pe tm ps asg bo df, H' x = some (.loop s pe tm ps asg bo df) → isDef H' df) (ha : FrozenL H H' args args') (h : VOpen P G f args' H' nx R Rp) : VOpen P G f args H nx R Rp := by
 refine ⟨h.1, fun c W vs s hH hnx hG hargs => ?_⟩
 have ho' : ∀ β o', H' β = some o' → ∃ o, c.H β = some o ∧ FrozenO c.H H' o o' := by rw [hH]; exact ho
 have hl : ∀ β, (H' β).isSome = true → c.live β := by
  intro β h
  obtain ⟨o', h'⟩ := Option.isSome_iff_exists.1 h
  obtain ⟨o, h1, _⟩ := ho' β o' h'
  simp [Ctx.live, h1]
 have he : Ext c W (c.frz H') W := ext_frz hl
 have ab : Abides c W (c.frz H') W := abides_frz hl
 refine (h.2 (c.frz H') W vs (s.frz ho' hloop) rfl hnx (hG.abides ab) (frozenL_rep s hl (by rw [hH]; exact ha) hargs)).mono ?_
 rintro e W' ⟨c', H1, nx', g1, g2, g3, g4, g5, g6, g7⟩
 exact ⟨c', H1, nx', he.trans g1, g2, g3, g4, g5, g6, g7⟩
def Yields (P : Program) (G : Glob) (β : Nat) (x : VV) (H : Nat → Option VObj) (nx : Nat) (Post : Bool → (Nat → Option VObj) → Nat → Prop) : Prop :=
 ∀ (r : Option (Option Nat)) (o : Oper) (st : St) (K : St → Prop), st.H = H → st.nx = nx → (∀ b H' nx', Post b H' nx' → K ⟨(match o.dst with | some d => upd st.tm d (.lit (.bool b)) | none => st.tm), H', nx', st.df⟩) → yieldK P (G.at r) o β [x] st K
theorem Yields.mono {P : Program} {G : Glob} {β : Nat} {x : VV} {H : Nat → Option VObj} {nx : Nat} {Post Post' : Bool → (Nat → Option VObj) → Nat → Prop} (h : Yields P G β x H nx Post) (hp : ∀ b H' nx', Post b H' nx' → Post' b H' nx') : Yields P G β x H nx Post' :=
 fun r o st K h1 h2 hk => h r o st K h1 h2 fun b H' nx' hp' => hk b H' nx' (hp b H' nx' hp')
abbrev Inv := Option (List VV) → (Nat → Prop) → (Nat → Option VObj) → Nat → Prop
def Stable (I : Inv) : Prop := ∀ o (Fr Fr1 : Nat → Prop) (H H1 : Nat → Option VObj) (nx nx1 : Nat), I o Fr H nx → (∀ γ, γ < nx → ¬ Fr γ → H1 γ = H γ) → nx ≤ nx1 → (∀ γ, Fr1 γ → Fr γ ∨ (nx ≤ γ ∧ γ < nx1)) → I o Fr1 H1 nx1
def Rounds (P : Program) (G : Glob) (β : Nat) (I : Inv) : Prop := ∀ x rest (Fr : Nat → Prop) (H : Nat → Option VObj) (nx : Nat), (∀ γ, Fr γ → γ < nx) → I (some (x :: rest)) Fr H nx →
 Yields P G β x H nx (fun b H' nx' => nx ≤ nx' ∧ (∀ γ, Fr γ → H' γ = H γ) ∧ I (if b then some rest else none) Fr H' nx')
def noFr : Nat → Prop := fun _ => False
def Iter (P : Program) (G : Glob) (g : VV) (L : List VV) : Prop := ∃ f first captured, g = .fn (.func f) first captured ∧ ∀ (β : Nat) (I : Inv), Stable I → Rounds P G β I → ∀ (H : Nat → Option VObj) (nx : Nat), β < nx → I (some L) noFr H nx →
 VOpen P G f (first ++ [.yl β] ++ captured) H nx (fun _ H' nx' => I (some []) noFr H' nx' ∨ I none noFr H' nx') (fun _ _ _ => False)
def Own (hp : List (Nat × VObj)) (Fr : Nat → Prop) (H : Nat → Option VObj) (nx : Nat) : Prop := ∀ p ∈ hp, p.1 < nx ∧ ¬ Fr p.1 ∧ H p.1 = some p.2
theorem Own.stable {hp : List (Nat × VObj)} {Fr Fr1 : Nat → Prop} {H H1 : Nat → Option VObj} {nx nx1 : Nat} (h : Own hp Fr H nx) (h1 : ∀ γ, γ < nx → ¬ Fr γ → H1 γ = H γ) (h2 : nx ≤ nx1) (h3 : ∀ γ, Fr1 γ → Fr γ ∨ (nx ≤ γ ∧ γ < nx1)) : Own hp Fr1 H1 nx1 := by
 intro p hp
 obtain ⟨a, b, c⟩ := h p hp
 refine ⟨Nat.lt_of_lt_of_le a h2, fun hf => ?_, by rw [h1 p.1 a b]; exact c⟩
 rcases h3 p.1 hf with hf | hf
 ·exact b hf
 ·omega
theorem Own.nil {Fr : Nat → Prop} {H : Nat → Option VObj} {nx : Nat} : Own [] Fr H nx := fun _ h => by cases h
theorem Own.cons {p : Nat} {o : VObj} {hp : List (Nat × VObj)} {Fr : Nat → Prop} {H : Nat → Option VObj} {nx : Nat} (h1 : p < nx) (h2 : ¬ Fr p) (h3 : H p = some o) (h : Own hp Fr H nx) : Own ((p, o) :: hp) Fr H nx := by
 intro q hq
 rcases List.mem_cons.1 hq with rfl | hq
 ·exact ⟨h1, h2, h3⟩
 ·exact h q hq
theorem Own.head {p : Nat} {o : VObj} {hp : List (Nat × VObj)} {Fr : Nat → Prop} {H : Nat → Option VObj} {nx : Nat} (h : Own ((p, o) :: hp) Fr H nx) : p < nx ∧ ¬ Fr p ∧ H p = some o := h (p, o) (List.mem_cons_self ..)
theorem Own.tail {p : Nat} {o : VObj} {hp : List (Nat × VObj)} {Fr : Nat → Prop} {H : Nat → Option VObj} {nx : Nat} (h : Own ((p, o) :: hp) Fr H nx) : Own hp Fr H nx := fun q hq => h q (List.mem_cons_of_mem _ hq)
def ownI (J : Option (List VV) → List (Nat × VObj) → Prop) : Inv := fun o Fr H nx => ∃ hp, Own hp Fr H nx ∧ J o hp
theorem ownI_stable {J : Option (List VV) → List (Nat × VObj) → Prop} : Stable (ownI J) := fun _ _ _ _ _ _ _ ⟨hp, h, hj⟩ h1 h2 h3 => ⟨hp, h.stable h1 h2 h3, hj⟩
section
variable {P : Program} {G : Glob} {n : Nat} {Q : VExit → St → Prop} {tm : Nat → VV} {H : Nat → Option VObj} {nx : Nat} {df : List VDef} {g : Operand} {ps : Array Tmp} {az bo : Code}
def RPost (β : Nat) (LB LO : VObj) (LD : Code → VObj) (Post : Bool → (Nat → Option VObj) → Nat → Prop) : VExit → St → Prop
 | .normal, s => s.H β = some LB ∧ Post true (updH s.H β LO) s.nx
 | .ret, s => s.H β = some LB ∧ Post false (updH s.H β (LD .ret)) s.nx
 | .exit id, s => s.H β = some LB ∧ Post false (updH s.H β (LD (.exit id))) s.nx
 | _, _ => False
def RStart (P : Program) (G : Glob) (n β : Nat) (LB LO : VObj) (LD : Code → VObj) (bo : Code) (Post : Bool → (Nat → Option VObj) → Nat → Prop) : VExit → St → Prop
 | .normal, s => s.H β = some LO ∧ CWp P (G.at (some (some β))) n bo (RPost β LB LO LD Post) { s with H := updH s.H β LB }
 | _, _ => False
theorem yields_open (hm : P.follows .mixedOrders = true) {β : Nat} {x : VV} {Post : Bool → (Nat → Option VObj) → Nat → Prop} {LO : VObj} {tml : List VV} {d : Nat} {psl : List Tmp} (hL : LO = VObj.loop .ready none tml ⟨psl⟩ az bo d) (hβ : H β = some LO) (hn : tml.length = n) (ha : psl.length = 1)
  (h1 : codeOk n az = true) (h2 : codeOk n bo = true)
  (h : ∀ LB LD, LB = VObj.loop .busy none tml ⟨psl⟩ az bo d → LD = (fun c => VObj.loop .done (some c) tml ⟨psl⟩ az bo d) →
   CWp P (G.at (some (some β))) n az (RStart P G n β LB LO LD bo Post) ⟨argsTm (roundTm tml psl [x]), H, nx, []⟩) : Yields P G β x H nx Post := by
 intro r o st K e1 e2 hk
 subst e1 e2
 replace hk : ∀ b H' nx', Post b H' nx' → K { st.put o.dst (.lit (.bool b)) with H := H', nx := nx' } := by
  intro b H' nx' hp
  have := hk b H' nx' hp
  obtain ⟨d, op, ty, pos, af, gd⟩ := o
  cases d <;> exact this
 refine yield_open hm hL hβ hn (by simp [ha]) h1 h2 fun LB LD hB hD => ?_
 refine CWp.mono az _ ?_ (h LB LD hB hD)
 intro e s hs
 cases e with
 | normal =>
  refine ⟨hs.1, CWp.mono bo _ ?_ hs.2⟩
  intro e s2 hs2
  cases e with
  | normal => exact ⟨hs2.1, hk _ _ _ hs2.2⟩
  | ret => exact ⟨hs2.1, hk _ _ _ hs2.2⟩
  | exit id => exact ⟨hs2.1, hk _ _ _ hs2.2⟩
  | goto l => exact hs2.elim
  | panic x => exact hs2.elim
 | _ => exact hs.elim
theorem range_iter {itv : VV} {L : List VV} (hit : Iter P G itv L) (hg : ev (G.at (some none)) tm g = itv)
  (h : ∀ LO, LO = VObj.loop .ready none (tmL n tm) ps az bo nx → ∃ I : Inv, Stable I ∧ Rounds P G (nx + 1) I ∧ I (some L) noFr (updH (updH H nx (.deferred (some []))) (nx + 1) LO) (nx + 2) ∧
   ∀ H' nx', I (some []) noFr H' nx' ∨ I none noFr H' nx' → RangeEnd P (G.at (some none)) n Q ⟨tm, H, nx, df⟩ H' nx') : CWp P (G.at (some none)) n (.rangeFunc g ps az bo) Q ⟨tm, H, nx, df⟩ := by
 obtain ⟨f, first, captured, rfl, hv⟩ := hit
 refine range_open hg fun LO hL => ?_
 obtain ⟨I, hs, hr, h0, he⟩ := h LO hL
 exact VOpen.mono (hv (nx + 1) I hs hr _ _ (Nat.lt_succ_self _) h0) (fun _ H' nx' hh => he H' nx' hh) (fun _ _ _ hh => hh.elim)
end
end Go.V
end
section
set_option linter.unusedVariables false
namespace Go.V
open Go
theorem VOpen.freeze1 {P : Program} {G : Glob} {f : FuncId} {args args' : List VV} {H : Nat → Option VObj} {nx γ : Nat} {el : Option TypeId} {cs : List VV} {R Rp : VV → (Nat → Option VObj) → Nat → Prop} (hγ : H γ = some (.cells el cs))
  (ha : FrozenL H (without H γ) args args') (h : VOpen P G f args' (without H γ) nx R Rp) : VOpen P G f args H nx R Rp := by
 refine ⟨h.1, fun c W vs s hH hnx hG hargs => ?_⟩
 subst hH
 have ho' : ∀ β o', without c.H γ β = some o' → ∃ o, c.H β = some o ∧ FrozenO c.H (without c.H γ) o o' := fun β o' hb => ⟨o', SubHeap.without _ _ β o' hb, .inl rfl⟩
 have hl : ∀ β, (without c.H γ β).isSome = true → c.live β := by
  intro β h
  obtain ⟨o', h'⟩ := Option.isSome_iff_exists.1 h
  obtain ⟨o, h1, _⟩ := ho' β o' h'
  simp [Ctx.live, h1]
 have he : Ext c W (c.frz (without c.H γ)) W := ext_frz hl
 have ab : Abides c W (c.frz (without c.H γ)) W := abides_frz hl
 have hloop : ∀ x st pe tm ps asg bo df, without c.H γ x = some (.loop st pe tm ps asg bo df) → isDef (without c.H γ) df := by
  intro x st pe tm ps asg bo df hx
  obtain ⟨l, fn, _, _, _, hd⟩ := s.obj x _ (SubHeap.without _ _ x _ hx)
  exact hd.without hγ
 refine (h.2 (c.frz (without c.H γ)) W vs (s.frz ho' hloop) rfl hnx (hG.abides ab) (frozenL_rep s hl ha hargs)).mono ?_
 rintro e W' ⟨c', H1, nx', g1, g2, g3, g4, g5, g6, g7⟩
 exact ⟨c', H1, nx', he.trans g1, g2, g3, g4, g5, g6, g7⟩
theorem Frozen.same {H H' : Nat → Option VObj} {x : VV} : Frozen H H' x x := .inl rfl
theorem FrozenL.same {H H' : Nat → Option VObj} : ∀ {xs : List VV}, FrozenL H H' xs xs
 | [] => trivial
 | _ :: _ => ⟨.same, .same⟩
theorem Frozen.own {H : Nat → Option VObj} {γ n w cp : Nat} {el : Option TypeId} {cs : List VV} (hγ : H γ = some (.cells el cs)) (ht : treeL cs = true) (hl : cs.length = n * w) : Frozen H (without H γ) (.ref γ 0 n w cp) (.sl cs n false) := by
 refine .inr (.inr ⟨cs.length + 2, ?_⟩)
 have hg : gone H (without H γ) γ = some (.cells el cs) := by simp [gone, without, hγ]
 unfold sealV
 have : (VV.ref γ 0 n w cp).tree = false := rfl
 rw [this]
 simp only [Bool.false_eq_true, if_false, hg, Nat.zero_le, if_true, List.drop_zero]
 rw [List.take_of_length_le (by omega), seal_tree cs _ ht (by omega)]
 rfl
theorem VPure.weaken {P : Program} {G : Glob} {f : FuncId} {args args' : List VV} {r : PRes} (hw : ∀ c W vs, RepL c W args vs → RepL c W args' vs) (h : VPure P G f args' r) : VPure P G f args r :=
 ⟨h.1, fun A W vs h1 h2 h3 => h.2 A W vs h1 h2 (hw _ W vs h3)⟩
theorem rep_nil {c : Ctx} {W : World} {v : Value} (h : Rep c W (.lit (.slice none 0 0)) v) : Rep c W (.sl [] 0 false) v := by
 have e : v = .slice none 0 0 := h
 subst e
 exact ⟨none, 0, rfl, Nat.le_refl _, fun h => by simp at h, .inl rfl⟩
def vx {α : Type} (enc : α → List VV) : List α → VV
 | [] => .lit (.slice none 0 0)
 | l => .sl (cellsL enc l) l.length false
theorem rep_vx {α : Type} {enc : α → List VV} {c : Ctx} {W : World} {v : Value} : ∀ {l : List α}, Rep c W (vx enc l) v → Rep c W (.sl (cellsL enc l) l.length false) v
 | [], h => rep_nil h
 | _ :: _, h => h
theorem vx_cons {α : Type} {enc : α → List VV} {l : List α} (h : l ≠ []) : vx enc l = .sl (cellsL enc l) l.length false := by cases l with
 | nil => exact absurd rfl h
 | cons a l => rfl
def listsB (may : List Int → Int → Bool) (lim : Nat) : Nat → List Int → List (List Int)
 | 0, p => [p]
 | d + 1, p => (List.range' 0 lim).flatMap fun i : Nat => if may p (i : Int) then listsB may lim d (p ++ [(i : Int)]) else []
end Go.V
namespace Go.V
theorem tree_vx {α : Type} {enc : α → List VV} (he : EncOk enc) : ∀ {l : List α}, (vx enc l).tree = true
 | [] => rfl
 | a :: l => he.treeL (a :: l)
end Go.V
namespace Go.V
def lessN (H : Nat → Option VObj) (ns : List Nat) : Nat → Option VObj := fun γ => if γ ∈ ns then none else H γ
theorem lessN_sub {H : Nat → Option VObj} {ns : List Nat} : SubHeap (lessN H ns) H := fun x o h => by
 unfold lessN at h
 split at h
 ·cases h
 ·exact h
theorem VOpen.freezeN {P : Program} {G : Glob} {f : FuncId} {args args' : List VV} {H : Nat → Option VObj} {nx : Nat} {R Rp : VV → (Nat → Option VObj) → Nat → Prop} (ns : List Nat) (hns : ∀ γ ∈ ns, ∃ el cs, H γ = some (.cells el cs))
  (ha : FrozenL H (lessN H ns) args args') (h : VOpen P G f args' (lessN H ns) nx R Rp) : VOpen P G f args H nx R Rp := by
 refine ⟨h.1, fun c W vs s hH hnx hG hargs => ?_⟩
 subst hH
 have ho' : ∀ β o', lessN c.H ns β = some o' → ∃ o, c.H β = some o ∧ FrozenO c.H (lessN c.H ns) o o' := fun β o' hb => ⟨o', lessN_sub β o' hb, .inl rfl⟩
 have hl : ∀ β, (lessN c.H ns β).isSome = true → c.live β := by
  intro β h
  obtain ⟨o', h'⟩ := Option.isSome_iff_exists.1 h
  obtain ⟨o, h1, _⟩ := ho' β o' h'
  simp [Ctx.live, h1]
 have he : Ext c W (c.frz (lessN c.H ns)) W := ext_frz hl
 have ab : Abides c W (c.frz (lessN c.H ns)) W := abides_frz hl
 have hloop : ∀ x st pe tm ps asg bo df, lessN c.H ns x = some (.loop st pe tm ps asg bo df) → isDef (lessN c.H ns) df := by
  intro x st pe tm ps asg bo df hx
  obtain ⟨l, fn, _, _, _, ds, hd⟩ := s.obj x _ (lessN_sub x _ hx)
  refine ⟨ds, ?_⟩
  unfold lessN
  split
  ·rename_i hm
   obtain ⟨el, cs, hc⟩ := hns df hm
   rw [hc] at hd; cases hd
  ·exact hd
 refine (h.2 (c.frz (lessN c.H ns)) W vs (s.frz ho' hloop) rfl hnx (hG.abides ab) (frozenL_rep s hl ha hargs)).mono ?_
 rintro e W' ⟨c', H1, nx', g1, g2, g3, g4, g5, g6, g7⟩
 exact ⟨c', H1, nx', he.trans g1, g2, g3, g4, g5, g6, g7⟩
theorem VOpen.of_pure {P : Program} {G : Glob} {f : FuncId} {args : List VV} {x : VV} {H : Nat → Option VObj} {nx : Nat} (h : VPure P G f args (.tree x)) (ht : treeL args = true) : VOpen P G f args H nx (fun y H' nx' => y = x ∧ H' = H ∧ nx' = nx) (fun _ _ _ => False) := by
 refine ⟨h.1, fun c W vs s hH hnx hG ha => (h.2 c.A W vs s.ltA (fun g cs hg => hG.tree g cs hg) (repL_tree ht ha)).mono ?_⟩
 rintro e W' ⟨A', h1, h2, h3, hb, v, rfl, hx⟩
 exact ⟨c.more A', H, nx, Ext.more h1 h2 hb, Sim.more s h1 h2 h3 hb, hH, fun β hb => .inl hb, hnx, Nat.le_refl _, .inl ⟨x, v, rfl, Rep.abides (abides_of_p (fun _ h => h)) _ hx, rfl, rfl, rfl⟩⟩
abbrev sI (l : List Int) : VV := .sl (cellsL eI l) l.length false
theorem map_vx {L : List (List Int)} (h : ∀ q ∈ L, q ≠ []) : L.map (vx eI) = L.map sI := List.map_congr_left fun q hq => vx_cons (h q hq)
end Go.V
namespace Go.V
theorem sealL_caps {H : Nat → Option VObj} {m : Nat} : ∀ (caps : List (Nat × List VV)) (n : Nat), (∀ p ∈ caps, (∃ el, H p.1 = some (.cells el p.2)) ∧ treeL p.2 = true ∧ p.2.length < m) → caps.length + m + 2 < n →
  sealL H n (caps.map fun p => .ptr p.1 0) = some (caps.map fun p => .tp p.2)
 | [], n + 1, _, _ => by simp [sealL]
 | p :: caps, n + 1, h, hn => by
  obtain ⟨⟨el, h1⟩, h2, h3⟩ := h p (List.mem_cons_self ..)
  have ih := sealL_caps caps n (fun q hq => h q (List.mem_cons_of_mem _ hq)) (by simp at hn; omega)
  obtain ⟨n', rfl⟩ : ∃ n', n = n' + 1 := ⟨n - 1, by simp at hn; omega⟩
  have e : sealV H (n' + 1) (.ptr p.1 0) = some (.tp p.2) := by
   unfold sealV
   have : (VV.ptr p.1 0).tree = false := rfl
   rw [this]
   simp only [Bool.false_eq_true, if_false, h1, Nat.zero_le, if_true, List.drop_zero]
   rw [seal_tree _ _ h2 (by simp at hn; omega)]
   rfl
  simp only [List.map_cons]
  unfold sealL
  rw [e, ih]
theorem Frozen.closure {H H' : Nat → Option VObj} {f : Fn} (caps : List (Nat × List VV)) (m : Nat) (hne : caps ≠ []) (h : ∀ p ∈ caps, (∃ el, H p.1 = some (.cells el p.2)) ∧ (H' p.1).isSome = false ∧ treeL p.2 = true ∧ p.2.length < m) : Frozen H H' (.fn f [] (caps.map fun p => .ptr p.1 0)) (.fn f [] (caps.map fun p => .tp p.2)) := by
 refine .inr (.inr ⟨caps.length + m + 4, ?_⟩)
 have hg : ∀ p ∈ caps, (∃ el, gone H H' p.1 = some (.cells el p.2)) ∧ treeL p.2 = true ∧ p.2.length < m := by
  intro p hp
  obtain ⟨⟨el, h1⟩, h2, h3⟩ := h p hp
  exact ⟨⟨el, by simp [gone, h2, h1]⟩, h3⟩
 have ht : (VV.fn f [] (caps.map fun p => .ptr p.1 0)).tree = false := by
  cases caps with
  | nil => exact absurd rfl hne
  | cons p l => simp [VV.tree, treeL]
 unfold sealV
 rw [ht]
 simp only [Bool.false_eq_true, if_false]
 rw [sealL_caps caps _ hg (by omega)]
 have : sealL (gone H H') (caps.length + m + 3) [] = some [] := by simp [sealL]
 rw [this]
end Go.V
namespace Go.V
def goL (rc : List Int → Option (List (List Int))) (may : List Int → Int → Option Bool) (p : List Int) : List Nat → Option (List (List Int))
 | [] => some []
 | i :: is => Option.bind (may p (i : Int)) fun b => cond b (Option.bind (rc (p ++ [(i : Int)])) fun a => Option.bind (goL rc may p is) fun r => some (a ++ r)) (goL rc may p is)
def listsO (may : List Int → Int → Option Bool) (lim : Nat) : Nat → List Int → Option (List (List Int))
 | 0, p => some [p]
 | d + 1, p => goL (listsO may lim d) may p (List.range' 0 lim)
theorem goL_eq {rc : List Int → Option (List (List Int))} {rb : List Int → List (List Int)} {may : List Int → Int → Option Bool} {m : List Int → Int → Bool} {p : List Int} : ∀ (is : List Nat), (∀ i ∈ is, may p (i : Int) = some (m p (i : Int))) → (∀ i ∈ is, m p (i : Int) = true → rc (p ++ [(i : Int)]) = some (rb (p ++ [(i : Int)]))) →
  goL rc may p is = some (is.flatMap fun i : Nat => if m p (i : Int) then rb (p ++ [(i : Int)]) else [])
 | [], _, _ => rfl
 | i :: is, h1, h2 => by
  have ih := goL_eq (rb := rb) is (fun j hj => h1 j (List.mem_cons_of_mem _ hj)) (fun j hj => h2 j (List.mem_cons_of_mem _ hj))
  unfold goL
  rw [h1 i (List.mem_cons_self ..), ih]
  cases hb : m p (i : Int) with
  | false => simp [List.flatMap_cons, hb]
  | true => rw [Option.bind_some, cond_true, h2 i (List.mem_cons_self ..) hb]; simp [List.flatMap_cons, hb]
theorem listsO_eq {may : List Int → Int → Option Bool} {m : List Int → Int → Bool} {lim ln : Nat} (h : ∀ p j, p.length < ln → (∀ a ∈ p, 0 ≤ a ∧ a < (lim : Int)) → 0 ≤ j → j < (lim : Int) → may p j = some (m p j)) : ∀ (d : Nat) (p : List Int), p.length + d = ln → (∀ a ∈ p, 0 ≤ a ∧ a < (lim : Int)) → listsO may lim d p = some (listsB m lim d p)
 | 0, p, _, _ => rfl
 | d + 1, p, hd, hp => by
  unfold listsO listsB
  refine goL_eq _ (fun i hi => h p i (by omega) hp (by omega) (by have := (List.mem_range'_1.1 hi).2; omega)) (fun i hi _ => listsO_eq h d _ (by simp; omega) ?_)
  intro a ha
  rcases List.mem_append.1 ha with ha | ha
  ·exact hp a ha
  ·rw [List.mem_singleton.1 ha]
   have := (List.mem_range'_1.1 hi).2
   omega
theorem goL_mem {rc : List Int → Option (List (List Int))} {may : List Int → Int → Option Bool} {p : List Int} {Pr : List Int → Prop} (hr : ∀ i L, rc (p ++ [(i : Int)]) = some L → ∀ q ∈ L, Pr q) : ∀ (is : List Nat) (L : List (List Int)), goL rc may p is = some L → ∀ q ∈ L, Pr q
 | [], L, h, q, hq => by simp [goL] at h; subst h; cases hq
 | i :: is, L, h, q, hq => by
  unfold goL at h
  cases hm : may p (i : Int) with
  | none => rw [hm] at h; cases h
  | some b =>
   rw [hm, Option.bind_some] at h
   cases b with
   | false => exact goL_mem hr is L h q hq
   | true =>
    rw [cond_true] at h
    cases ha : rc (p ++ [(i : Int)]) with
    | none => rw [ha] at h; cases h
    | some a =>
     rw [ha, Option.bind_some] at h
     cases hg : goL rc may p is with
     | none => rw [hg] at h; cases h
     | some r =>
      rw [hg, Option.bind_some] at h
      cases h
      rcases List.mem_append.1 hq with hq | hq
      ·exact hr i a ha q hq
      ·exact goL_mem hr is r hg q hq
theorem listsO_len {may : List Int → Int → Option Bool} {lim : Nat} : ∀ (d : Nat) (p : List Int) (L : List (List Int)), listsO may lim d p = some L → ∀ q ∈ L, q.length = p.length + d
 | 0, p, L, h, q, hq => by
  simp [listsO] at h; subst h
  rw [List.mem_singleton.1 hq]; rfl
 | d + 1, p, L, h, q, hq => by
  unfold listsO at h
  exact goL_mem (Pr := fun q => q.length = p.length + (d + 1)) (fun i L' h' q' hq' => by rw [listsO_len d _ L' h' q' hq']; simp; omega) _ L h q hq
end Go.V
namespace Go.V
theorem ktreeR {P : Program} {G : Glob} {γ : Nat} {tm : Nat → VV} {H : Nat → Option VObj} {nx : Nat} {df : List VDef} {d : Option Tmp} {K : St → Prop} {Qp : VV → St → Prop} {f : FuncId} {args : List VV} {x : VV} (ht : treeL args = true) (hp : VPure P G f args (.tree x)) (h : fin d γ tm H nx df K x .none) : callK P G f args ⟨tm, H, nx, df⟩ d γ K Qp := by
 refine .inl ⟨ht, .tree x, hp, ?_⟩
 rw [← fin_eq (K := K), stepTo_none] at h
 exact h
end Go.V
namespace Go.V
theorem Frozen.ptr {H H' : Nat → Option VObj} {γ : Nat} {el : Option TypeId} {cs : List VV} (hγ : H γ = some (.cells el cs)) (hn : (H' γ).isSome = false) (ht : treeL cs = true) : Frozen H H' (.ptr γ 0) (.tp cs) := by
 refine .inr (.inr ⟨cs.length + 2, ?_⟩)
 have hg : gone H H' γ = some (.cells el cs) := by simp [gone, hn, hγ]
 unfold sealV
 have : (VV.ptr γ 0).tree = false := rfl
 rw [this]
 simp only [Bool.false_eq_true, if_false, hg, Nat.zero_le, if_true, List.drop_zero]
 rw [seal_tree cs _ ht (by omega)]
 rfl
theorem VWp.freeze2 {P : Program} {G : Glob} {n : Nat} {code : Code} {Q : VExit → St → Prop} {tm : Nat → VV} {H : Nat → Option VObj} {nx : Nat} {df : List VDef} {a b γ δ : Nat} {e1 e2 : Option TypeId} {c1 c2 : List VV} (ha : tm a = .ptr γ 0) (hb : tm b = .ptr δ 0) (hH : H γ = some (.cells e1 c1)) (hH2 : H δ = some (.cells e2 c2))
  (h1 : treeL c1 = true) (h2 : treeL c2 = true) (hall : ∀ x, x ≠ γ → x ≠ δ → H x = none) (h : VWp P G n code Q ⟨upd (upd tm a (.tp c1)) b (.tp c2), fun _ => none, nx, df⟩) : VWp P G n code Q ⟨tm, H, nx, df⟩ := by
 refine VWp.freeze (fun _ => none) (upd (upd tm a (.tp c1)) b (.tp c2)) (fun β o' hh => by cases hh) (fun x s pe tm ps asg bo df hh => by cases hh) (fun t => ?_) h
 show Frozen H (fun _ => none) (tm t) (upd (upd tm a (.tp c1)) b (.tp c2) t)
 unfold upd
 split
 ·rename_i e; rw [e, hb]; exact Frozen.ptr hH2 rfl h2
 ·split
  ·rename_i e; rw [e, ha]; exact Frozen.ptr hH rfl h1
  ·exact .same
end Go.V
end
