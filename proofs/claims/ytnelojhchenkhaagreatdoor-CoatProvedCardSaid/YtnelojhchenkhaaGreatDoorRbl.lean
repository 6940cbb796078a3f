/- Part of a proof: a logic of values by content, lifted functions, what follows. -/
import Derived.Test.YtnelojhchenkhaaGreatDoorRbi
import Derived.Test.YtnelojhchenkhaaGreatDoorRbj
import Derived.Test.YtnelojhchenkhaaGreatDoorRbk
import Derived.Test.YtnelojhchenkhaaGreatDoorRbf
import Derived.Test.YtnelojhchenkhaaGreatDoorRbh
set_option linter.all false
set_option maxRecDepth 4000
set_option maxHeartbeats 4000000
section
namespace Go.V
open Go
def SI (w : List Int) (k : Int) : Int := (w.take k.toNat).sum
structure WOk (w : List Int) : Prop where
 v : ∀ x ∈ w, 0 ≤ x ∧ x ≤ 24
 l : w.length ≤ 12
theorem sum_bd : ∀ (w : List Int), (∀ x ∈ w, 0 ≤ x ∧ x ≤ 24) → 0 ≤ w.sum ∧ w.sum ≤ 24 * w.length
 | [], _ => by simp
 | x :: w, h => by
  have h1 := h x (by simp)
  have h2 := sum_bd w (fun y hy => h y (by simp [hy]))
  simp only [List.sum_cons, List.length_cons]
  omega
theorem SI_bd {w : List Int} (h : WOk w) (k : Int) : 0 ≤ SI w k ∧ SI w k ≤ 288 := by
 have h1 := sum_bd (w.take k.toNat) (fun x hx => h.v x (List.mem_of_mem_take hx))
 have h2 : (w.take k.toNat).length ≤ 12 := by rw [List.length_take]; have := h.l; omega
 unfold SI
 omega
theorem SI_next {w p : List Int} {c v : Int} (h0 : 0 ≤ c) (h : w.drop c.toNat = v :: p) : SI w (c + 1) = SI w c + v := by
 unfold SI
 have e : (c + 1).toNat = c.toNat + 1 := by omega
 have h1 : w = w.take c.toNat ++ v :: p := by rw [← h, List.take_append_drop]
 have h2 : c.toNat < w.length := by
  rcases Nat.lt_or_ge c.toNat w.length with h' | h'
  ·exact h'
  ·rw [List.drop_eq_nil_of_le h'] at h; cases h
 have h3 : (w.take c.toNat).length = c.toNat := by rw [List.length_take]; omega
 have h4 : w.take (c.toNat + 1) = w.take c.toNat ++ [v] := by
  conv => lhs; rw [h1]
  rw [List.take_append, h3]
  simp [List.take_take]
 rw [e, h4, List.sum_append]
 simp
theorem SI_all {w : List Int} {n : Int} (h : (w.length : Int) ≤ n) : SI w n = w.sum := by
 unfold SI
 rw [List.take_of_length_le (by omega)]
theorem SI_drop {w : List Int} {a : Int} : (w.drop a.toNat).sum = w.sum - SI w a := by
 have h := List.sum_append (l₁ := w.take a.toNat) (l₂ := w.drop a.toNat)
 rw [List.take_append_drop] at h
 unfold SI
 omega
theorem sumOf_l0 : ∀ (p : List Int) (c acc : Int), (∀ v ∈ p, 0 ≤ v ∧ v ≤ 24) → 0 ≤ acc → acc + 24 * p.length < 9223372036854775808 → g_sum_Of_l0 p c acc = some (.go (acc + p.sum))
 | [], _, _, _, _, _ => by simp [g_sum_Of_l0]
 | e :: p, c, acc, h, h0, h1 => by
  have h2 := h e (by simp)
  simp only [List.length_cons] at h1
  simp only [g_sum_Of_l0]
  rw [wrap_eq (by omega) (by omega), sumOf_l0 p (c + 1) (acc + e) (fun v hv => h v (by simp [hv])) (by omega) (by omega), List.sum_cons]
  congr 2
  omega
theorem sumOf_eq {p : List Int} (h : ∀ v ∈ p, 0 ≤ v ∧ v ≤ 24) (hl : p.length ≤ 12) : g_sum_Of p = some p.sum := by
 unfold g_sum_Of
 rw [lenOk_of (by omega), sumOf_l0 p 0 0 h (Int.le_refl _) (by omega)]
 simp [lbind]
def lowsL (d : List GSpan) : List Int := d.map (·.Low)
def highsL (d : List GSpan) : List Int := d.map (·.High)
theorem room_small {n : Nat} (h : n ≤ 1000) : roomOk 8 n = true := by simp [roomOk]; omega
theorem summed_l0 : ∀ (p : List GSpan) (c : Int) (a b : List Int), a.length + p.length ≤ 500 → b.length + p.length ≤ 500 → g_coat_summed_l0 p c a b = some (.go (a ++ lowsL p, b ++ highsL p))
 | [], _, a, b, _, _ => by simp [g_coat_summed_l0, lowsL, highsL]
 | e :: p, c, a, b, h1, h2 => by
  simp only [List.length_cons] at h1 h2
  simp only [g_coat_summed_l0]
  rw [room_small (by simp; omega), room_small (by simp; omega), cond_true, cond_true, summed_l0 p (c + 1) _ _ (by simp; omega) (by simp; omega)]
  simp [lowsL, highsL]
def preL (w : List Int) (c k : Nat) : List Int := (List.range' c k).map fun j => (w.take j).sum
theorem preL_length {w : List Int} {c k : Nat} : (preL w c k).length = k := by simp [preL]
theorem getI_pre {w : List Int} {n : Nat} {k : Int} (h0 : 0 ≤ k) (h1 : k ≤ n) : getI (preL w 0 (n + 1)) k = some (SI w k) := by
 unfold getI preL SI
 rw [if_pos h0]
 simp only [List.getElem?_map]
 rw [List.getElem?_range' (by omega)]
 simp
theorem summed_l1 {c1 : List Int × List Int} {n : Nat} (hn : 0 < n) (h12 : n ≤ 12) (l1 : c1.1.length = n) (l2 : c1.2.length = n) (v1 : ∀ v ∈ c1.1, 0 ≤ v ∧ v ≤ 24) (v2 : ∀ v ∈ c1.2, 0 ≤ v ∧ v ≤ 24) : ∀ (k c : Nat) (a b : List Int), c + k = n + 1 → a.length = c → b.length = c →
  g_coat_summed_l1 c1 k (c : Int) a b = some (.go (a ++ preL c1.1 c k, b ++ preL c1.2 c k))
 | 0, c, a, b, _, _, _ => by simp [g_coat_summed_l1, preL]
 | k + 1, c, a, b, h, ha, hb => by
  simp only [g_coat_summed_l1]
  have p1 : pfxOk c1.1.length (c : Int) = true := pfxOk_iff.2 ⟨by omega, by omega, by omega⟩
  have p2 : pfxOk c1.2.length (c : Int) = true := pfxOk_iff.2 ⟨by omega, by omega, by omega⟩
  have q1 : le1000 (c1.1.length * 1) = true := by simp [le1000]; omega
  have q2 : le1000 (c1.2.length * 1) = true := by simp [le1000]; omega
  rw [p1, p2, q1, q2, sumOf_eq (p := c1.1.take (Int.toNat c)) (fun v hv => v1 v (List.mem_of_mem_take hv)) (by rw [List.length_take]; omega), sumOf_eq (p := c1.2.take (Int.toNat c)) (fun v hv => v2 v (List.mem_of_mem_take hv)) (by rw [List.length_take]; omega)]
  simp only [cond_true, Option.bind_some]
  rw [room_small (by simp; omega), room_small (by simp; omega), cond_true, cond_true]
  have := summed_l1 hn h12 l1 l2 v1 v2 k (c + 1) (a ++ [(c1.1.take (Int.toNat c)).sum]) (b ++ [(c1.2.take (Int.toNat c)).sum]) (by omega) (by simp [ha]) (by simp [hb])
  rw [show ((c + 1 : Nat) : Int) = (c : Int) + 1 by omega] at this
  rw [this]
  simp [preL, List.range'_succ]
structure DOk (d : List GSpan) : Prop where
 s : ∀ x ∈ d, spanB x = true
 l : 1 ≤ d.length ∧ d.length ≤ 12
theorem span_iff {x : GSpan} : spanB x = true ↔ 0 ≤ x.Low ∧ x.Low ≤ x.High ∧ x.High ≤ 24 := by
 unfold spanB
 simp only [Bool.and_eq_true, inB_iff, decide_eq_true_eq]
 omega
theorem DOk.low {d : List GSpan} (h : DOk d) : WOk (lowsL d) := ⟨fun x hx => by
 obtain ⟨y, hy, rfl⟩ := List.mem_map.1 hx
 have := span_iff.1 (h.s y hy)
 omega, by simp [lowsL]; exact h.l.2⟩
theorem DOk.high {d : List GSpan} (h : DOk d) : WOk (highsL d) := ⟨fun x hx => by
 obtain ⟨y, hy, rfl⟩ := List.mem_map.1 hx
 have := span_iff.1 (h.s y hy)
 omega, by simp [highsL]; exact h.l.2⟩
theorem neB_of {α : Type} {xs : List α} (h : 1 ≤ xs.length) : neB xs = true := by cases xs with | nil => simp at h | cons a p => rfl
theorem summed_eq {s : GCoatSheet} (h : DOk s.Dry) : g_coat_summed s = some ⟨s, preL (lowsL s.Dry) 0 (s.Dry.length + 1), preL (highsL s.Dry) 0 (s.Dry.length + 1)⟩ := by
 have hl := h.l
 unfold g_coat_summed
 rw [lenOk_of (by omega), summed_l0 _ _ _ _ (by simp; omega) (by simp; omega)]
 simp only [cond_true, lbind, List.nil_append]
 rw [neB_of (by simp [lowsL]; omega), neB_of (by simp [highsL]; omega), wrap_eq (by omega) (by omega), show boundOk ((s.Dry.length : Int) + 1) = true by simp [boundOk]; omega]
 have := summed_l1 (c1 := (lowsL s.Dry, highsL s.Dry)) (n := s.Dry.length) (by omega) hl.2 (by simp [lowsL]) (by simp [highsL]) h.low.v h.high.v (s.Dry.length + 1) 0 [] [] (by omega) rfl rfl
 rw [show Int.toNat ((s.Dry.length : Int) + 1 - 0) = s.Dry.length + 1 by omega]
 rw [show ((0 : Nat) : Int) = 0 from rfl] at this
 rw [this]
 simp only [cond_true, List.nil_append]
 rw [neB_of (by rw [preL_length]; omega), neB_of (by rw [preL_length]; omega)]
 rfl
def failW (lo hi : Int → Int) (n : Int) : List Int → List GCoatCoat → Int → Option (Int × Int)
 | a :: p, c :: cs, i => cond (decide (lo (p.headD n) - lo a < c.Need)) (some (i, 1)) (cond (!p.isEmpty && decide (hi (p.headD n) - hi a > c.Peel)) (some (i, 2)) (failW lo hi n p cs (i + 1)))
 | _, _, _ => none
theorem drop_app {α : Type} {l p : List α} {c : Nat} {z : α} (h : l.drop c = p) (hc : c ≤ l.length) : (l ++ [z]).drop c = p ++ [z] := by
 rw [List.drop_append_of_le_length hc, h]
theorem drop_len {α : Type} {l p : List α} {c : Nat} {a : α} (h : l.drop c = a :: p) : l.length = c + 1 + p.length := by
 have := congrArg List.length h
 rw [List.length_drop, List.length_cons] at this
 omega
theorem head_app (p : List Int) (n : Int) : ∃ q, p ++ [n] = p.headD n :: q := by
 cases p with
 | nil => exact ⟨[], rfl⟩
 | cons a p => exact ⟨p ++ [n], rfl⟩
def ffR (o : Option (Int × Int)) : Option (LOut (Gcoatfailure × Bool) Unit) := match o with
 | some r => some (.ret (⟨r.1, r.2⟩, true))
 | none => some (.go ())
section
variable {x : Gcoatsums} {lo hi : Int → Int} (hlo : ∀ k : Int, 0 ≤ k → k ≤ x.CoatSheet.Dry.length → getI x.lows k = some (lo k)) (hhi : ∀ k : Int, 0 ≤ k → k ≤ x.CoatSheet.Dry.length → getI x.highs k = some (hi k))
 (blo : ∀ k : Int, 0 ≤ lo k ∧ lo k ≤ 288) (bhi : ∀ k : Int, 0 ≤ hi k ∧ hi k ≤ 288) (hc : lenOk x.CoatSheet.Coats = true)
include hlo blo in
theorem least_eq {a b : Int} (ha : 0 ≤ a ∧ a ≤ x.CoatSheet.Dry.length) (hb : 0 ≤ b ∧ b ≤ x.CoatSheet.Dry.length) : g_coat_sums_least x a b = some (lo b - lo a) := by
 have h1 := blo a
 have h2 := blo b
 unfold g_coat_sums_least
 rw [hlo b hb.1 hb.2, hlo a ha.1 ha.2]
 simp only [Option.bind_some]
 rw [wrap_eq (by omega) (by omega)]
include hhi bhi in
theorem greatest_eq {a b : Int} (ha : 0 ≤ a ∧ a ≤ x.CoatSheet.Dry.length) (hb : 0 ≤ b ∧ b ≤ x.CoatSheet.Dry.length) : g_coat_sums_greatest x a b = some (hi b - hi a) := by
 have h1 := bhi a
 have h2 := bhi b
 unfold g_coat_sums_greatest
 rw [hhi b hb.1 hb.2, hhi a ha.1 ha.2]
 simp only [Option.bind_some]
 rw [wrap_eq (by omega) (by omega)]
include hc in
theorem isLast_eq {c : Int} {k : GCoatCoat} {cs : List GCoatCoat} {p : List Int} (h0 : 0 ≤ c) (h : x.CoatSheet.Coats.drop c.toNat = k :: cs) (hl : p.length = cs.length) : g_coat_sums_isLast x c = some p.isEmpty := by
 have h1 := lenOk_lt hc
 have h2 := drop_len h
 unfold g_coat_sums_isLast
 rw [wrap_eq (by omega) (by omega)]
 congr 1
 cases p with
 | nil =>
  simp only [List.length_nil] at hl
  rw [List.isEmpty_nil, beq_iff_eq]; omega
 | cons a p =>
  simp only [List.length_cons] at hl
  rw [List.isEmpty_cons]
  exact beq_false_of_ne (by omega)
theorem headD_mem {p : List Int} {n : Int} (h : ∀ d ∈ p, 0 ≤ d ∧ d ≤ n) (hn : 0 ≤ n) : 0 ≤ p.headD n ∧ p.headD n ≤ n := by
 cases p with
 | nil => exact ⟨hn, Int.le_refl _⟩
 | cons a p => exact h a (by simp)
include hlo hhi blo bhi hc in
theorem ffw_l0 {r : List Int} : ∀ (p : List Int) (cs : List GCoatCoat) (c : Int), 0 ≤ c → r.drop c.toNat = p → x.CoatSheet.Coats.drop c.toNat = cs → p.length = cs.length → (∀ d ∈ p, 0 ≤ d ∧ d ≤ (x.CoatSheet.Dry.length : Int)) →
  g_coat_firstFailure_worst_l0 x r p c = ffR (failW lo hi x.CoatSheet.Dry.length p cs c)
 | [], _, _, _, _, _, _, _ => rfl
 | a :: p, [], _, _, _, _, hl, _ => by simp at hl
 | a :: p, k :: cs, c, h0, hp, hk, hl, hd => by
  have hlen := drop_len hp
  have e1 : (r ++ [(x.CoatSheet.Dry.length : Int)]).drop c.toNat = a :: (p ++ [(x.CoatSheet.Dry.length : Int)]) := drop_app hp (by omega)
  obtain ⟨q, hq⟩ := head_app p x.CoatSheet.Dry.length
  have e2 : (r ++ [(x.CoatSheet.Dry.length : Int)]).drop (c + 1).toNat = p.headD x.CoatSheet.Dry.length :: q := by rw [drop_next h0 e1, hq]
  have ha := hd a (by simp)
  have hb := headD_mem (p := p) (n := x.CoatSheet.Dry.length) (fun d hd' => hd d (by simp [hd'])) (by omega)
  simp only [List.length_cons, Nat.add_right_cancel_iff] at hl
  simp only [g_coat_firstFailure_worst_l0, getI_of_drop h0 e1, getI_of_drop (by omega) e2, getI_of_drop h0 hk, Option.bind_some, least_eq hlo blo ha hb, greatest_eq hhi bhi ha hb, isLast_eq hc h0 hk hl, failW]
  rw [ffw_l0 p cs (c + 1) (by omega) (drop_next h0 hp) (drop_next h0 hk) hl (fun d hd' => hd d (by simp [hd']))]
  cases decide (lo (p.headD x.CoatSheet.Dry.length) - lo a < k.Need) <;> cases p.isEmpty <;> cases decide (hi (p.headD x.CoatSheet.Dry.length) - hi a > k.Peel) <;> rfl
include hlo hhi blo bhi hc in
end
end Go.V
end
section
namespace Go.V
open Go Go.Proofs
end Go.V
end
section
namespace Go.V
open Go Go.Proofs
end Go.V
end
section
namespace Go.V
open Go Go.Proofs
def g_slices_Clone_Span (xs : List GSpan) : Option (List GSpan) := cond (neB xs) (cond (roomOk 16 xs.length) (some xs) none) none
theorem g_slices_Clone_Span_ok (xs R : List GSpan) (h : g_slices_Clone_Span xs = some R) : VPure Tryz.prog G0 110 [.sl (cellsL cGSpan xs) xs.length false] (.own (cellsL cGSpan R) R.length 2) := by
 unfold g_slices_Clone_Span at h
 cases hn : neB xs with
 | false => rw [hn] at h; cases h
 | true =>
 cases hr : roomOk 16 xs.length with
 | false => rw [hn, hr] at h; cases h
 | true =>
 rw [hn, hr] at h
 simp only [cond_true, Option.some.injEq] at h
 subst h
 have hc : cellsL cGSpan xs ≠ [] := by
  cases xs with
  | nil => cases hn
  | cons a l => intro hh; cases hh
 have hnil : ∀ (H : Nat → Option VObj) (x y : Operand), binV Tryz.prog H .eql 22 x y (.sl (cellsL cGSpan xs) xs.length false) (.lit (.slice none 0 0)) = some (.lit (.bool false)) := fun H x y => binV_slNil Tryz.underlying22 hc
 have hb : vbuildSlice Tryz.prog 22 0 [] = some ([], 2) := by kernel_rfl
 refine VPure.run mixed Tryz.call110 Tryz.func110 rfl (by simp [Tryz.ntmps110]; kernel_rfl) ?_
 simp only [vz, tyf, hnil, hb, List.map_nil, seval]
 refine k_appS (w := 2) (enc := cGSpan) (xs := ([] : List GSpan)) (ys := xs) (el := some 89) (fun _ => rfl) lf22 ao22 Tryz.underlying22 rfl hn (by rw [List.nil_append]; exact hr) ?_
 simp only [vz, tyf, List.nil_append, seval]
 refine ⟨rfl, .ref 5 0 xs.length 2 xs.length, by simp [Tryz.results110, resV, resL, resV1, upd], (cellsL cGSpan xs).length + 1, 5, _, cellsL cGSpan xs, ⟨_, rfl⟩, by simp only [updH_apply, without_apply, seval] <;> rfl, seal_tree _ _ (cGSpan_ok.treeL xs) (Nat.lt_succ_self _)⟩
end Go.V
end
section
namespace Go.V
open Go Go.Proofs
def g_coat_foreseen (x0_s : GCoatSheet) (x1_day : Int) (x2_dry : Int) : Option (GCoatSheet) := Option.bind (g_slices_Clone_Span x0_s.Dry) (fun r1 => Option.bind (getI r1 x1_day) (fun x2 => some (GCoatSheet.mk (List.set r1 (Int.toNat x1_day) (GSpan.mk x2_dry x2_dry)) x0_s.Work x0_s.Coats)))
theorem g_coat_foreseen_ok (x0_s : GCoatSheet) (x1_day : Int) (x2_dry : Int) (R : GCoatSheet) (h : g_coat_foreseen x0_s x1_day x2_dry = some R) : VPure Tryz.prog G0 71 [.agg (cGCoatSheet x0_s), .lit (.int .i64 x1_day), .lit (.int .i64 x2_dry)] (.tree (.agg (cGCoatSheet R))) := by
 refine VPure.runR mixed Tryz.call71 Tryz.func71 rfl (by simp [Tryz.ntmps71]; kernel_rfl) ?_
 obtain ⟨KF, h, kF, kN⟩ := fun_intro h
 simp only [g_coat_foreseen] at h
 rcases o4 : (g_slices_Clone_Span x0_s.Dry) with _ | r3
 ·simp only [o4, hs] at h
  exact absurd h kN
 simp only [o4, hs] at h
 simp only [vz, tyf, nm, seval]
 refine kown (args0 := [.sl (cellsL cGSpan x0_s.Dry) (List.length x0_s.Dry) false]) (by first | (simp only [nrm, tynrm] <;> rfl) | rfl) (by simp only [tre, tytre, Bool.and_self]) (g_slices_Clone_Span_ok _ _ o4) ?_
 rcases o6 : (getI r3 x1_day) with _ | x5
 ·simp only [o6, hs] at h
  exact absurd h kN
 simp only [o6, hs] at h
 have w7 := setA (w := 2) (enc := cGSpan) (fun _ => rfl) o6
 have w8 := setB (w := 2) (enc := cGSpan) (GSpan.mk x2_dry x2_dry) (fun _ => rfl) o6
 simp only [vz, tyf, nm, seval] at w8
 have w9 := setC (w := 2) (enc := cGSpan) r3 (Int.toNat x1_day) (GSpan.mk x2_dry x2_dry) (fun _ => rfl)
 try simp only [vz, tyf, (ixo22 o6), w7, w8, w9, nm, seval]
 refine opd_ret (x := (.agg ([.ref 4 0 (List.length (List.set r3 (Int.toNat x1_day) (GSpan.mk x2_dry x2_dry))) 2 (List.length (List.set r3 (Int.toNat x1_day) (GSpan.mk x2_dry x2_dry)))] ++ [.sl (cellsL eI x0_s.Work) (List.length x0_s.Work) false] ++ [.sl (cellsL cGCoatCoat x0_s.Coats) (List.length x0_s.Coats) false]))) (by first | (simp only [Tryz.results71, resV, resL, resV1, tgt_ptr, tgt_tp, uw, cr, tyf, (ixo22 o6), w7, w8, w9, nm, seval] <;> rfl) | rfl) ?_
 obtain rfl := kF _ h
 refine rr_tree ?_ ?_
 ·simp only [tre, tytre, Bool.and_self]
 ·first | (simp only [outV, uw, showV_ref, cr, tyf, nrm, tynrm, (ixo22 o6), w7, w8, w9, nm, seval] <;> rfl) | rfl
end Go.V
end
section
namespace Go.V
open Go Go.Proofs
def g_coat_Holds_l0  : List Int → Int → (List GSpan) → (List Int) → (List GCoatCoat) → Option (LOut (Bool × Int) ((List GSpan) × (List Int) × (List GCoatCoat)))
 | [], c0_27, c0_o0, c0_o1, c0_o2 => some (.go (c0_o0, c0_o1, c0_o2))
 | e0 :: p0, c0_27, c0_o0, c0_o1, c0_o2 => Option.bind (g_coat_foreseen (GCoatSheet.mk c0_o0 c0_o1 c0_o2) c0_27 e0) (fun r5 => g_coat_Holds_l0 p0 (c0_27 + 1) r5.Dry r5.Work r5.Coats)
def g_coat_Holds (x0_s : GCoatSheet) (x1_plan : List Int) (x2_weather : List Int) : Option (Bool × Int) := Option.bind (g_coat_isSheet x0_s) (fun r1 => cond (r1) (Option.bind (g_coat_isPlan x0_s x1_plan) (fun r2 => cond (r2) (Option.bind (g_coat_isWeather x0_s x2_weather) (fun r3 => cond (r3) (cond (lenOk x2_weather) (lbind (g_coat_Holds_l0 x2_weather 0 x0_s.Dry x0_s.Work x0_s.Coats) (fun r8 => some r8) (fun c6 => Option.bind (g_coat_surelyHolds (GCoatSheet.mk c6.1 c6.2.1 c6.2.2) x1_plan) (fun r7 => some (r7, 0))) (fun _ _ => none)) none) (some (false, 2)))) (some (false, 2)))) (some (false, 2)))
theorem g_coat_Holds_ok (x0_s : GCoatSheet) (x1_plan : List Int) (x2_weather : List Int) (R : Bool × Int) (h : g_coat_Holds x0_s x1_plan x2_weather = some R) : VPure Tryz.prog G0 22 [.agg (cGCoatSheet x0_s), .sl (cellsL eI x1_plan) (List.length x1_plan) false, .sl (cellsL eI x2_weather) (List.length x2_weather) false] (.tree (.tup [.lit (.bool R.1), .lit (.int .i64 R.2)])) := by
 refine VPure.runR mixed Tryz.call22 Tryz.func22 rfl (by simp [Tryz.ntmps22]; kernel_rfl) ?_
 obtain ⟨KF, h, kF, kN⟩ := fun_intro h
 simp only [g_coat_Holds] at h
 rcases o10 : (g_coat_isSheet x0_s) with _ | r9
 ·simp only [o10, hs] at h
  exact absurd h kN
 simp only [o10, hs] at h
 simp only [vz, tyf, nm, seval]
 refine ktree (args0 := [.agg (cGCoatSheet x0_s)]) (by first | (simp only [nrm, tynrm] <;> rfl) | rfl) (by simp only [tre, tytre, Bool.and_self]) (g_coat_isSheet_ok _ _ o10) ?_
 refine fin_cut (fun tm => tm 1 = .sl (cellsL eI x1_plan) (List.length x1_plan) false ∧ tm 2 = .sl (cellsL eI x2_weather) (List.length x2_weather) false ∧ tm 3 = .ptr 0 0 ∧ tm 11 = .lit (.bool r9) ∧ True) (by refine ⟨?_, ?_, ?_, ?_, trivial⟩ <;> first | (simp only [ua, nm, seval] <;> rfl) | rfl) ?_
 rintro tm ⟨e11, e12, e13, e14, _⟩
 cases d15 : (r9)
 ·simp only [d15, hs] at h
  try simp only [vz, tyf, e11, e12, e13, e14, d15, nm, seval]
  refine opd_ret (x := (.tup [.lit (.bool false), .lit (.int .i64 2)])) (by first | (simp only [Tryz.results22, resV, resL, resV1, tgt_ptr, tgt_tp, uw, cr, tyf, d15, nm, seval] <;> rfl) | rfl) ?_
  obtain rfl := kF _ h
  refine rr_tree ?_ ?_
  ·simp only [tre, tytre, Bool.and_self]
  ·first | (simp only [outV, uw, showV_ref, cr, tyf, nrm, tynrm, e11, e12, e13, e14, d15, nm, seval] <;> rfl) | rfl
 simp only [d15, hs] at h
 rcases o17 : (g_coat_isPlan x0_s x1_plan) with _ | r16
 ·simp only [o17, hs] at h
  exact absurd h kN
 simp only [o17, hs] at h
 simp only [vz, tyf, e11, e12, e13, e14, d15, nm, seval]
 refine ktree (args0 := [.agg (cGCoatSheet x0_s), .sl (cellsL eI x1_plan) (List.length x1_plan) false]) (by first | (simp only [nrm, tynrm] <;> rfl) | rfl) (by simp only [tre, tytre, Bool.and_self]) (g_coat_isPlan_ok _ _ _ o17) ?_
 refine fin_cut (fun tm => tm 1 = .sl (cellsL eI x1_plan) (List.length x1_plan) false ∧ tm 2 = .sl (cellsL eI x2_weather) (List.length x2_weather) false ∧ tm 3 = .ptr 0 0 ∧ tm 13 = .lit (.bool false) ∧ tm 16 = .lit (.bool r16) ∧ True) (by refine ⟨e11, e12, e13, ?_, ?_, trivial⟩ <;> first | (simp only [ua, e11, e12, e13, e14, d15, nm, seval] <;> rfl) | rfl) ?_
 rintro tm ⟨e18, e19, e20, e21, e22, _⟩
 cases d23 : (r16)
 ·simp only [d23, hs] at h
  try simp only [vz, tyf, d15, e18, e19, e20, e21, e22, d23, nm, seval]
  refine opd_ret (x := (.tup [.lit (.bool false), .lit (.int .i64 2)])) (by first | (simp only [Tryz.results22, resV, resL, resV1, tgt_ptr, tgt_tp, uw, cr, tyf, d15, d23, nm, seval] <;> rfl) | rfl) ?_
  obtain rfl := kF _ h
  refine rr_tree ?_ ?_
  ·simp only [tre, tytre, Bool.and_self]
  ·first | (simp only [outV, uw, showV_ref, cr, tyf, nrm, tynrm, d15, e18, e19, e20, e21, e22, d23, nm, seval] <;> rfl) | rfl
 simp only [d23, hs] at h
 rcases o25 : (g_coat_isWeather x0_s x2_weather) with _ | r24
 ·simp only [o25, hs] at h
  exact absurd h kN
 simp only [o25, hs] at h
 simp only [vz, tyf, d15, e18, e19, e20, e21, e22, d23, nm, seval]
 refine ktree (args0 := [.agg (cGCoatSheet x0_s), .sl (cellsL eI x2_weather) (List.length x2_weather) false]) (by first | (simp only [nrm, tynrm] <;> rfl) | rfl) (by simp only [tre, tytre, Bool.and_self]) (g_coat_isWeather_ok _ _ _ o25) ?_
 refine fin_cut (fun tm => tm 1 = .sl (cellsL eI x1_plan) (List.length x1_plan) false ∧ tm 2 = .sl (cellsL eI x2_weather) (List.length x2_weather) false ∧ tm 3 = .ptr 0 0 ∧ tm 19 = .lit (.bool false) ∧ tm 22 = .lit (.bool r24) ∧ True) (by refine ⟨e18, e19, e20, ?_, ?_, trivial⟩ <;> first | (simp only [ua, d15, e18, e19, e20, e21, e22, d23, nm, seval] <;> rfl) | rfl) ?_
 rintro tm ⟨e26, e27, e28, e29, e30, _⟩
 cases d31 : (r24)
 ·simp only [d31, hs] at h
  try simp only [vz, tyf, d15, d23, e26, e27, e28, e29, e30, d31, nm, seval]
  refine opd_ret (x := (.tup [.lit (.bool false), .lit (.int .i64 2)])) (by first | (simp only [Tryz.results22, resV, resL, resV1, tgt_ptr, tgt_tp, uw, cr, tyf, d15, d23, d31, nm, seval] <;> rfl) | rfl) ?_
  obtain rfl := kF _ h
  refine rr_tree ?_ ?_
  ·simp only [tre, tytre, Bool.and_self]
  ·first | (simp only [outV, uw, showV_ref, cr, tyf, nrm, tynrm, d15, d23, e26, e27, e28, e29, e30, d31, nm, seval] <;> rfl) | rfl
 simp only [d31, hs] at h
 cases g33 : (lenOk x2_weather)
 ·simp only [g33, hs] at h
  exact absurd h kN
 simp only [g33, hs] at h
 simp only [vz, tyf, d15, d23, e26, e27, e28, e29, e30, d31, g33, nm, seval]
 obtain ⟨K32, h, kR32, kG32, kB32, kN32⟩ := lbind_intro h kN
 obtain ⟨f32, hf32, h⟩ := call5 h
 obtain ⟨I32, hI32⟩ : ∃ I : Nat → St → Prop, I = (fun m st => ∃ (p32 : List Int) (c32_27 : Int) (c32_o0 : List GSpan) (c32_o1 : List Int) (c32_o2 : List GCoatCoat), m = List.length p32 ∧ 0 ≤ c32_27 ∧ List.drop (Int.toNat c32_27) x2_weather = p32 ∧ st.df = [] ∧ 21 ≤ st.nx ∧ st.H 0 = some (.cells (some 26) ([.sl (cellsL cGSpan c32_o0) (List.length c32_o0) false] ++ [.sl (cellsL eI c32_o1) (List.length c32_o1) false] ++ [.sl (cellsL cGCoatCoat c32_o2) (List.length c32_o2) false])) ∧ st.tm 1 = .sl (cellsL eI x1_plan) (List.length x1_plan) false ∧ st.tm 3 = .ptr 0 0 ∧ st.tm 25 = .sl (cellsL eI x2_weather) (List.length x2_weather) false ∧ st.tm 26 = .lit (.int .i64 (List.length x2_weather : Int)) ∧ st.tm 27 = .lit (.int .i64 c32_27) ∧ K32 (f32 p32 c32_27 c32_o0 c32_o1 c32_o2)) := ⟨_, rfl⟩
 refine loopK mixed (by kernel_rfl) I32 (List.length x2_weather) (by rw [hI32]; refine ⟨x2_weather, 0, x0_s.Dry, x0_s.Work, x0_s.Coats, rfl, Int.le_refl _, rfl, rfl, (show 21 ≤ 21 by omega), ?_, e26, e28, ?_, ?_, ?_, h⟩ <;> first | (simp only [ua, d15, d23, e26, e27, e28, e29, e30, d31, nm, seval] <;> rfl) | rfl) ?_
 rintro m ⟨tm, H, nx32, df⟩ hinv
 rw [hI32] at hinv
 obtain ⟨p32, c32_27, c32_o0, c32_o1, c32_o2, rfl, hi32, hp32, hdf, hn32, H34, e35, e36, e37, e38, e39, h⟩ := hinv
 simp only at hdf hn32 H34 e35 e36 e37 e38 e39
 have n40 := base_ne0 (m := 21) (b := nx32) (by omega)
 subst hdf hf32
 cases p32 with
 | nil =>
  have d41 : (decide (c32_27 < (List.length x2_weather : Int))) = false := not_lt_of_drop hi32 hp32
  simp only [g_coat_Holds_l0, hs, reduceCtorEq] at h
  replace h := kG32 _ h
  try dsimp only at h
  try simp only [hs] at h
  rcases o43 : (g_coat_surelyHolds (GCoatSheet.mk c32_o0 c32_o1 c32_o2) x1_plan) with _ | r42
  ·simp only [o43, hs] at h
   exact absurd h kN
  simp only [o43, hs] at h
  simp only [vz, tyf, d15, d23, d31, g33, n40, e35, e36, e37, e38, e39, H34, d41, nm, seval]
  refine ktree (args0 := [.agg (cGCoatSheet (GCoatSheet.mk c32_o0 c32_o1 c32_o2)), .sl (cellsL eI x1_plan) (List.length x1_plan) false]) (by first | (simp only [nrm, tynrm] <;> rfl) | rfl) (by simp only [tre, tytre, Bool.and_self]) (g_coat_surelyHolds_ok _ _ _ o43) ?_
  refine fin_cut (fun tm => tm 39 = .lit (.bool r42) ∧ True) (by refine ⟨?_, trivial⟩ <;> first | (simp only [ua, d15, d23, d31, n40, e35, e36, e37, e38, e39, H34, d41, nm, seval] <;> rfl) | rfl) ?_
  rintro tm ⟨e44, _⟩
  have b45 := And.intro d15 (And.intro d23 (And.intro d31 (And.intro g33 (And.intro n40 (And.intro H34 d41)))))
  try simp only [vz, tyf, b45, e44, nm, seval]
  refine opd_ret (x := (.tup [.lit (.bool r42), .lit (.int .i64 0)])) (by first | (simp only [Tryz.results22, resV, resL, resV1, tgt_ptr, tgt_tp, uw, cr, tyf, b45, nm, seval] <;> rfl) | rfl) ?_
  obtain rfl := kF _ h
  refine rr_tree ?_ ?_
  ·simp only [tre, tytre, Bool.and_self]
  ·first | (simp only [outV, uw, showV_ref, cr, tyf, nrm, tynrm, b45, e44, nm, seval] <;> rfl) | rfl
 | cons e32 p32 =>
  have d46 : (decide (c32_27 < (List.length x2_weather : Int))) = true := lt_of_drop hi32 hp32
  have o48 := getI_of_drop hi32 hp32
  have w47 := wrap_next hi32 hp32 g33
  simp only [g_coat_Holds_l0, hs, reduceCtorEq] at h
  rcases o50 : (g_coat_foreseen (GCoatSheet.mk c32_o0 c32_o1 c32_o2) c32_27 e32) with _ | r49
  ·simp only [o50, hs] at h
   exact absurd h kN32
  simp only [o50, hs] at h
  simp only [vz, tyf, d15, d23, d31, g33, n40, e35, e36, e37, e38, e39, H34, d46, (ix23 o48), w47, nm, seval]
  refine ktree (args0 := [.agg (cGCoatSheet (GCoatSheet.mk c32_o0 c32_o1 c32_o2)), .lit (.int .i64 c32_27), .lit (.int .i64 e32)]) (by first | (simp only [nrm, tynrm] <;> rfl) | rfl) (by simp only [tre, tytre, Bool.and_self]) (g_coat_foreseen_ok _ _ _ _ o50) ?_
  refine fin_cut (fun tm => tm 1 = .sl (cellsL eI x1_plan) (List.length x1_plan) false ∧ tm 3 = .ptr 0 0 ∧ tm 25 = .sl (cellsL eI x2_weather) (List.length x2_weather) false ∧ tm 26 = .lit (.int .i64 (List.length x2_weather : Int)) ∧ tm 27 = .lit (.int .i64 c32_27) ∧ tm 35 = .agg (cGCoatSheet r49) ∧ True) (by refine ⟨e35, e36, e37, e38, e39, ?_, trivial⟩ <;> first | (simp only [ua, d15, d23, d31, n40, e35, e36, e37, e38, e39, H34, d46, w47, nm, seval] <;> rfl) | rfl) ?_
  rintro tm ⟨e51, e52, e53, e54, e55, e56, _⟩
  have b57 := And.intro d15 (And.intro d23 (And.intro d31 (And.intro g33 (And.intro n40 (And.intro H34 (And.intro d46 w47))))))
  simp only [vz, tyf, b57, (ix23 o48), e51, e52, e53, e54, e55, e56, nm, seval]
  exact ⟨List.length p32, Nat.lt_succ_self _, by rw [hI32]; refine ⟨p32, c32_27 + 1, r49.Dry, r49.Work, r49.Coats, rfl, Int.le_trans hi32 (Int.le_add_one (Int.le_refl _)), drop_next hi32 hp32, rfl, (show 21 ≤ nx32 + 13 by omega), ?_, e51, e52, e53, e54, ?_, h⟩ <;> first | (simp only [ua, b57, e51, e52, e53, e54, e55, e56, nm, seval] <;> rfl) | rfl⟩
end Go.V
end
section
namespace Go.V
open Go Go.Proofs
def g_coat_Fails (x0_s : GCoatSheet) (x1_plan : List Int) : Option (Int × Int × Int) := Option.bind (g_coat_isSheet x0_s) (fun r1 => cond (r1) (Option.bind (g_coat_isPlan x0_s x1_plan) (fun r2 => cond (r2) (Option.bind (g_coat_summed x0_s) (fun r3 => Option.bind (g_coat_firstFailure_worst r3 x1_plan) (fun r4 => cond (r4.2) (some (r4.1.coat, r4.1.reason, 0)) (some (0, 0, 5))))) (some (0, 0, 2)))) (some (0, 0, 2)))
theorem g_coat_Fails_ok (x0_s : GCoatSheet) (x1_plan : List Int) (R : Int × Int × Int) (h : g_coat_Fails x0_s x1_plan = some R) : VPure Tryz.prog G0 27 [.agg (cGCoatSheet x0_s), .sl (cellsL eI x1_plan) (List.length x1_plan) false] (.tree (.tup [.lit (.int .i64 R.1), .lit (.int .i64 R.2.1), .lit (.int .i64 R.2.2)])) := by
 refine VPure.runR mixed Tryz.call27 Tryz.func27 rfl (by simp [Tryz.ntmps27]; kernel_rfl) ?_
 obtain ⟨KF, h, kF, kN⟩ := fun_intro h
 simp only [g_coat_Fails] at h
 rcases o6 : (g_coat_isSheet x0_s) with _ | r5
 ·simp only [o6, hs] at h
  exact absurd h kN
 simp only [o6, hs] at h
 simp only [vz, tyf, nm, seval]
 refine ktree (args0 := [.agg (cGCoatSheet x0_s)]) (by first | (simp only [nrm, tynrm] <;> rfl) | rfl) (by simp only [tre, tytre, Bool.and_self]) (g_coat_isSheet_ok _ _ o6) ?_
 refine fin_cut (fun tm => tm 1 = .sl (cellsL eI x1_plan) (List.length x1_plan) false ∧ tm 2 = .ptr 0 0 ∧ tm 11 = .lit (.bool r5) ∧ True) (by refine ⟨?_, ?_, ?_, trivial⟩ <;> first | (simp only [ua, nm, seval] <;> rfl) | rfl) ?_
 rintro tm ⟨e7, e8, e9, _⟩
 cases d10 : (r5)
 ·simp only [d10, hs] at h
  try simp only [vz, tyf, e7, e8, e9, d10, nm, seval]
  refine opd_ret (x := (.tup [.lit (.int .i64 0), .lit (.int .i64 0), .lit (.int .i64 2)])) (by first | (simp only [Tryz.results27, resV, resL, resV1, tgt_ptr, tgt_tp, uw, cr, tyf, d10, nm, seval] <;> rfl) | rfl) ?_
  obtain rfl := kF _ h
  refine rr_tree ?_ ?_
  ·simp only [tre, tytre, Bool.and_self]
  ·first | (simp only [outV, uw, showV_ref, cr, tyf, nrm, tynrm, e7, e8, e9, d10, nm, seval] <;> rfl) | rfl
 simp only [d10, hs] at h
 rcases o12 : (g_coat_isPlan x0_s x1_plan) with _ | r11
 ·simp only [o12, hs] at h
  exact absurd h kN
 simp only [o12, hs] at h
 simp only [vz, tyf, e7, e8, e9, d10, nm, seval]
 refine ktree (args0 := [.agg (cGCoatSheet x0_s), .sl (cellsL eI x1_plan) (List.length x1_plan) false]) (by first | (simp only [nrm, tynrm] <;> rfl) | rfl) (by simp only [tre, tytre, Bool.and_self]) (g_coat_isPlan_ok _ _ _ o12) ?_
 refine fin_cut (fun tm => tm 1 = .sl (cellsL eI x1_plan) (List.length x1_plan) false ∧ tm 2 = .ptr 0 0 ∧ tm 13 = .lit (.bool false) ∧ tm 16 = .lit (.bool r11) ∧ True) (by refine ⟨e7, e8, ?_, ?_, trivial⟩ <;> first | (simp only [ua, e7, e8, e9, d10, nm, seval] <;> rfl) | rfl) ?_
 rintro tm ⟨e13, e14, e15, e16, _⟩
 cases d17 : (r11)
 ·simp only [d17, hs] at h
  try simp only [vz, tyf, d10, e13, e14, e15, e16, d17, nm, seval]
  refine opd_ret (x := (.tup [.lit (.int .i64 0), .lit (.int .i64 0), .lit (.int .i64 2)])) (by first | (simp only [Tryz.results27, resV, resL, resV1, tgt_ptr, tgt_tp, uw, cr, tyf, d10, d17, nm, seval] <;> rfl) | rfl) ?_
  obtain rfl := kF _ h
  refine rr_tree ?_ ?_
  ·simp only [tre, tytre, Bool.and_self]
  ·first | (simp only [outV, uw, showV_ref, cr, tyf, nrm, tynrm, d10, e13, e14, e15, e16, d17, nm, seval] <;> rfl) | rfl
 simp only [d17, hs] at h
 rcases o19 : (g_coat_summed x0_s) with _ | r18
 ·simp only [o19, hs] at h
  exact absurd h kN
 simp only [o19, hs] at h
 simp only [vz, tyf, d10, e13, e14, e15, e16, d17, nm, seval]
 refine ktree (args0 := [.agg (cGCoatSheet x0_s)]) (by first | (simp only [nrm, tynrm] <;> rfl) | rfl) (by simp only [tre, tytre, Bool.and_self]) (g_coat_summed_ok _ _ o19) ?_
 refine fin_cut (fun tm => tm 1 = .sl (cellsL eI x1_plan) (List.length x1_plan) false ∧ tm 20 = .agg (cGcoatsums r18) ∧ True) (by refine ⟨e13, ?_, trivial⟩ <;> first | (simp only [ua, d10, e13, e14, e15, e16, d17, nm, seval] <;> rfl) | rfl) ?_
 rintro tm ⟨e20, e21, _⟩
 simp only [vz, tyf, d10, d17, e20, e21, nm, seval]
 refine cwp_drawTF (fun tm => tm 1 = .sl (cellsL eI x1_plan) (List.length x1_plan) false ∧ tm 7 = .ptr 15 0 ∧ True) (by refine ⟨e20, ?_, trivial⟩ <;> first | (simp only [ua, d10, d17, e20, e21, nm, seval] <;> rfl) | rfl) ?_
 rintro tm ⟨e22, e23, _⟩
 simp only [vz, tyf, d10, d17, e22, e23, nm, seval]
 refine dktree (args0 := [.agg (cGcoatsums r18)]) (by first | (simp only [nrm, tynrm] <;> rfl) | rfl) (by simp only [tre, tytre, Bool.and_self]) (g_coat_sums_atWorst_ok _) ?_
 rcases o25 : (g_coat_firstFailure_worst r18 x1_plan) with _ | r24
 ·simp only [o25, hs] at h
  exact absurd h kN
 simp only [o25, hs] at h
 simp only [vz, tyf, d10, d17, e22, e23, nm, seval]
 refine dktree (args0 := [.agg (cGcoatsums r18), .agg ([VV.lit Value.nilFunc] ++ [VV.fn (Fn.func 106) [.agg (cGcoatsums r18)] []] ++ [VV.fn (Fn.func 107) [.agg (cGcoatsums r18)] []]), .sl (cellsL eI x1_plan) (List.length x1_plan) false]) (by first | (simp only [nrm, tynrm, normV_fn, normV_nilF, mV_app, mV_app0] <;> rfl) | rfl) (by simp only [tre, tytre, tree_fn, mV_app, mV_app0, Bool.and_self]) (g_coat_firstFailure_worst_ok _ _ _ o25) ?_
 refine fin_cut (fun tm => tm 26 = .tup [.agg (cGcoatfailure r24.1), .lit (.bool r24.2)] ∧ True) (by refine ⟨?_, trivial⟩ <;> first | (simp only [ua, d10, d17, e22, e23, nm, seval] <;> rfl) | rfl) ?_
 rintro tm ⟨e26, _⟩
 simp only [vz, tyf, d10, d17, e26, nm, seval]
 refine drawK_nil ⟨?_, ?_⟩
 ·simp only [traceR_cons, traceR_nil, hitK_quiet, hitK_nil, and_true, true_and]
  repeat' (first | exact trivial | refine And.intro ?_ ?_ | rw [hitK_quiet] | rw [hitK_cons] | exact Or.inl (by decide +kernel) | exact Or.inl (by dsimp only; decide +kernel) | (refine Or.inr ⟨?_, ?_⟩ <;> simp; done) | (refine Or.inr ⟨?_, ?_⟩ <;> simp <;> omega) | (refine Or.inr ⟨?_, ?_⟩ <;> simp [VEff.wr] <;> omega))
 cases d27 : (r24.2)
 ·simp only [d27, hs] at h
  try simp only [vz, tyf, d10, d17, e26, d27, nm, seval]
  refine opd_ret (x := (.tup [.lit (.int .i64 0), .lit (.int .i64 0), .lit (.int .i64 5)])) (by first | (simp only [Tryz.results27, resV, resL, resV1, tgt_ptr, tgt_tp, uw, cr, tyf, d10, d17, d27, nm, seval] <;> rfl) | rfl) ?_
  obtain rfl := kF _ h
  refine rr_tree ?_ ?_
  ·simp only [tre, tytre, Bool.and_self]
  ·first | (simp only [outV, uw, showV_ref, cr, tyf, nrm, tynrm, d10, d17, e26, d27, nm, seval] <;> rfl) | rfl
 simp only [d27, hs] at h
 simp only [vz, tyf, d10, d17, e26, d27, nm, seval]
 refine cwp_drwQF (fun tm => tm 8 = .ptr 25 0 ∧ True) (by refine ⟨?_, trivial⟩ <;> first | (simp only [ua, d10, d17, e26, d27, nm, seval] <;> rfl) | rfl) ?_
 rintro tm ⟨e28, _⟩
 try simp only [vz, tyf, d10, d17, d27, e28, nm, seval]
 refine opd_ret (x := (.tup [.lit (.int .i64 r24.1.coat), .lit (.int .i64 r24.1.reason), .lit (.int .i64 0)])) (by first | (simp only [Tryz.results27, resV, resL, resV1, tgt_ptr, tgt_tp, uw, cr, tyf, d10, d17, d27, nm, seval] <;> rfl) | rfl) ?_
 obtain rfl := kF _ h
 refine rr_tree ?_ ?_
 ·simp only [tre, tytre, Bool.and_self]
 ·first | (simp only [outV, uw, showV_ref, cr, tyf, nrm, tynrm, d10, d17, d27, e28, nm, seval] <;> rfl) | rfl
end Go.V
end
section
namespace Go.V
open Go
structure VP (d : List GSpan) (cs : List GCoatCoat) (p : List Int) : Prop where
 dk : DOk d
 c : 1 ≤ cs.length ∧ cs.length ≤ 5
 l : p.length = cs.length
 u : upB p = true
 r : ∀ x ∈ p, 0 ≤ x ∧ x ≤ (d.length : Int) - 1
theorem VP.of {s : GCoatSheet} {p : List Int} (h1 : sheetB s = true) (h2 : planB s p = true) : VP s.Dry s.Coats p := by
 unfold sheetB incB at h1
 unfold planB incB at h2
 simp only [Bool.and_eq_true, inB_iff, List.all_eq_true, decide_eq_true_eq] at h1 h2
 refine ⟨⟨h1.1.2, by omega⟩, by omega, h2.1.1, h2.1.2.1, fun x hx => ?_⟩
 have := h2.1.2.2 x hx
 unfold dayB at this
 exact inB_iff.1 this
def ffP (o : Option (Int × Int)) : Gcoatfailure × Bool := match o with
 | some r => (⟨r.1, r.2⟩, true)
 | none => (⟨0, 0⟩, false)
theorem clone_eq {p : List Int} (h1 : 1 ≤ p.length) (h2 : p.length ≤ 1000) : g_slices_Clone_Int p = some p := by
 unfold g_slices_Clone_Int
 rw [room_small h2, show neB p = true by cases p with | nil => simp at h1 | cons a p => rfl]
 rfl
def worstW (d : List GSpan) (cs : List GCoatCoat) (p : List Int) : Option (Int × Int) := failW (SI (lowsL d)) (SI (highsL d)) d.length p cs 0
def sumsOf (s : GCoatSheet) : Gcoatsums := ⟨s, preL (lowsL s.Dry) 0 (s.Dry.length + 1), preL (highsL s.Dry) 0 (s.Dry.length + 1)⟩
theorem worst_eq {s : GCoatSheet} {p : List Int} (h : VP s.Dry s.Coats p) : g_coat_firstFailure_worst (sumsOf s) p = some (ffP (worstW s.Dry s.Coats p)) := by
 have hc := h.c
 have hl := h.l
 unfold g_coat_firstFailure_worst
 rw [clone_eq (by omega) (by omega), lenOk_of (by omega)]
 simp only [Option.bind_some, cond_true]
 rw [room_small (by simp; omega), cond_true]
 have := ffw_l0 (x := sumsOf s) (lo := SI (lowsL s.Dry)) (hi := SI (highsL s.Dry)) (fun k h0 h1 => getI_pre h0 h1) (fun k h0 h1 => getI_pre h0 h1) (SI_bd h.dk.low) (SI_bd h.dk.high) (lenOk_of (show s.Coats.length < _ by omega)) (r := p) p s.Coats 0 (Int.le_refl _) rfl rfl hl (fun x hx => by have := h.r x hx; show 0 ≤ x ∧ x ≤ (s.Dry.length : Int); omega)
 rw [this]
 unfold worstW
 show lbind (ffR (failW _ _ (s.Dry.length : Int) p s.Coats 0)) _ _ _ = _
 cases failW (SI (lowsL s.Dry)) (SI (highsL s.Dry)) (s.Dry.length : Int) p s.Coats 0 <;> rfl
theorem summed_of {s : GCoatSheet} (h : DOk s.Dry) : g_coat_summed s = some (sumsOf s) := summed_eq h
theorem ffP_2 (o : Option (Int × Int)) : (ffP o).2 = o.isSome := by cases o <;> rfl
def sureB (d : List GSpan) (cs : List GCoatCoat) (p : List Int) : Bool := (worstW d cs p).isNone
theorem surely_eq {s : GCoatSheet} {p : List Int} (h : VP s.Dry s.Coats p) : g_coat_surelyHolds s p = some (sureB s.Dry s.Coats p) := by
 unfold g_coat_surelyHolds sureB
 rw [summed_of h.dk]
 simp only [Option.bind_some, worst_eq h, ffP_2]
 cases worstW s.Dry s.Coats p <;> rfl
theorem fails_eq {s : GCoatSheet} {p : List Int} (hs : OkS s) (hp : lenOk p = true) : g_coat_Fails s p = some (cond (sheetB s) (cond (planB s p) (match worstW s.Dry s.Coats p with | some r => (r.1, r.2, (0 : Int)) | none => (0, 0, 5)) (0, 0, 2)) (0, 0, 2)) := by
 unfold g_coat_Fails
 rw [isSheet_eq hs, isPlan_eq hs hp]
 simp only [Option.bind_some]
 cases h1 : sheetB s with
 | false => rfl
 | true =>
 cases h2 : planB s p with
 | false => rfl
 | true =>
 have h := VP.of h1 h2
 simp only [cond_true, summed_of h.dk, Option.bind_some, worst_eq h]
 cases worstW s.Dry s.Coats p <;> rfl
theorem lows_l0 : ∀ (p : List GSpan) (c : Int) (a : List Int), a.length + p.length ≤ 500 → g_ref03_Lows_l0 p c a = some (.go (a ++ lowsL p))
 | [], _, a, _ => by simp [g_ref03_Lows_l0, lowsL]
 | e :: p, c, a, h1 => by
  simp only [List.length_cons] at h1
  simp only [g_ref03_Lows_l0]
  rw [room_small (by simp; omega), cond_true, lows_l0 p (c + 1) _ (by simp; omega)]
  simp [lowsL]
theorem highs_l0 : ∀ (p : List GSpan) (c : Int) (a : List Int), a.length + p.length ≤ 500 → g_ref03_Highs_l0 p c a = some (.go (a ++ highsL p))
 | [], _, a, _ => by simp [g_ref03_Highs_l0, highsL]
 | e :: p, c, a, h1 => by
  simp only [List.length_cons] at h1
  simp only [g_ref03_Highs_l0]
  rw [room_small (by simp; omega), cond_true, highs_l0 p (c + 1) _ (by simp; omega)]
  simp [highsL]
theorem lows_eq {s : GCoatSheet} (h : DOk s.Dry) : g_ref03_Lows s = some (lowsL s.Dry) := by
 have := h.l
 unfold g_ref03_Lows
 rw [lenOk_of (by omega), lows_l0 _ _ _ (by simp; omega)]
 rfl
theorem highs_eq {s : GCoatSheet} (h : DOk s.Dry) : g_ref03_Highs s = some (highsL s.Dry) := by
 have := h.l
 unfold g_ref03_Highs
 rw [lenOk_of (by omega), highs_l0 _ _ _ (by simp; omega)]
 rfl
theorem dries_l0 {w : List Int} (hw : WOk w) : ∀ (k : Nat) (c acc : Int), 0 ≤ c → c + k ≤ w.length → 0 ≤ acc → acc + 24 * k ≤ 500 → g_ref03_Dries_l0 w k c acc = some (.go (acc + (SI w (c + k) - SI w c)))
 | 0, c, acc, _, _, _, _ => by simp [g_ref03_Dries_l0]
 | k + 1, c, acc, h0, h1, h2, h3 => by
  obtain ⟨v, hv, hm⟩ := getI_some (xs := w) h0 (by omega)
  have hb := hw.v v hm
  obtain ⟨_, _, hd⟩ := getI_drop hv
  have hS := SI_next h0 hd
  simp only [g_ref03_Dries_l0, hv, Option.bind_some]
  rw [wrap_eq (by omega) (by omega), dries_l0 hw k (c + 1) (acc + v) (by omega) (by omega) (by omega) (by omega)]
  congr 2
  rw [show c + 1 + (k : Int) = c + ((k + 1 : Nat) : Int) by omega]
  omega
theorem dries_l1 : ∀ (p : List Int) (c acc : Int), (∀ v ∈ p, 0 ≤ v ∧ v ≤ 24) → 0 ≤ acc → acc + 24 * p.length < 9223372036854775808 → g_ref03_Dries_l1 p c acc = some (.go (acc + p.sum))
 | [], _, _, _, _, _ => by simp [g_ref03_Dries_l1]
 | e :: p, c, acc, h, h0, h1 => by
  have h2 := h e (by simp)
  simp only [List.length_cons] at h1
  simp only [g_ref03_Dries_l1]
  rw [wrap_eq (by omega) (by omega), dries_l1 p (c + 1) (acc + e) (fun v hv => h v (by simp [hv])) (by omega) (by omega), List.sum_cons]
  congr 2
  omega
theorem up_head {a : Int} {p : List Int} {n : Int} (h : upB (a :: p) = true) (hn : a ≤ n) : a ≤ p.headD n := by
 cases p with
 | nil => exact hn
 | cons b p =>
  rw [upB_cons, Bool.and_eq_true, decide_eq_true_eq] at h
  show a ≤ b
  omega
theorem up_tail {a : Int} {p : List Int} (h : upB (a :: p) = true) : upB p = true := by
 cases p with
 | nil => rfl
 | cons b p => rw [upB_cons, Bool.and_eq_true] at h; exact h.2
theorem up_drop : ∀ {p : List Int} (c : Nat), upB p = true → upB (p.drop c) = true
 | [], _, _ => by simp [upB]
 | _ :: _, 0, h => h
 | a :: p, c + 1, h => up_drop (p := p) c (up_tail h)
section
variable {d : List GSpan} {cs0 : List GCoatCoat} {pl : List Int} (h : VP d cs0 pl) {w : List Int} (hw : WOk w) (hl : w.length = d.length)
include h hw hl in
theorem dries_eq {p : List Int} {c a : Int} (h0 : 0 ≤ c) (hp : pl.drop c.toNat = a :: p) : g_ref03_Dries pl c w = some (SI w (p.headD d.length) - SI w a) := by
 have hc := h.c
 have hL := h.l
 have hdl := h.dk.l
 have hlen := drop_len hp
 have hm : a ∈ pl := List.mem_of_mem_drop (i := c.toNat) (by rw [hp]; simp)
 have ha := h.r a hm
 have hup : upB (a :: p) = true := by rw [← hp]; exact up_drop _ h.u
 have hb := up_head (n := d.length) hup (by omega)
 have hSa := SI_bd hw a
 unfold g_ref03_Dries
 rw [wrap_eq (by omega) (by omega), getI_of_drop h0 hp]
 simp only [Option.bind_some]
 cases p with
 | nil =>
  simp only [List.length_nil] at hlen
  rw [decide_eq_false (by omega), lenOk_of (by omega), show leB 0 a = true from decide_eq_true (by omega)]
  have hsum := sum_bd (w.drop a.toNat) (fun v hv => hw.v v (List.mem_of_mem_drop hv))
  have hwl := hw.l
  rw [dries_l1 _ _ _ (fun v hv => hw.v v (List.mem_of_mem_drop hv)) (Int.le_refl _) (by rw [List.length_drop]; omega), SI_drop]
  show some (0 + (w.sum - SI w a)) = some (SI w (d.length : Int) - SI w a)
  rw [SI_all (n := (d.length : Int)) (by omega)]
  congr 1
  omega
 | cons b p =>
  have hm2 : b ∈ pl := List.mem_of_mem_drop (i := c.toNat) (by rw [hp]; simp)
  have hb2 := h.r b hm2
  have hb' : a ≤ b := hb
  simp only [List.length_cons] at hlen
  have hwl := hw.l
  rw [decide_eq_true (by omega), getI_of_drop (by omega) (drop_next h0 hp)]
  simp only [cond_true, Option.bind_some]
  rw [show boundOk b = true by simp [boundOk]; omega, show loOk a = true by simp [loOk]; omega]
  rw [dries_l0 hw _ _ _ (by omega) (by omega) (Int.le_refl _) (by omega)]
  show some (0 + (SI w (a + ((b - a).toNat : Int)) - SI w a)) = some (SI w b - SI w a)
  rw [show a + ((b - a).toNat : Int) = b by omega]
  congr 1
  omega
include h hw hl in
include h hw hl in
end
theorem VP.pl {d : List GSpan} {cs : List GCoatCoat} {p : List Int} (h : VP d cs p) : lenOk p = true := by
 have := h.c; have := h.l
 exact lenOk_of (by omega)
def holdsW (d : List GSpan) (cs : List GCoatCoat) (p w : List Int) : Bool := (failW (SI w) (SI w) d.length p cs 0).isNone
def ptS (v : Int) : GSpan := ⟨v, v⟩
theorem cloneS_eq {p : List GSpan} (h1 : 1 ≤ p.length) (h2 : p.length ≤ 1000) : g_slices_Clone_Span p = some p := by
 unfold g_slices_Clone_Span
 rw [show roomOk 16 p.length = true by simp [roomOk]; omega, show neB p = true by cases p with | nil => simp at h1 | cons a p => rfl]
 rfl
theorem foreseen_eq {s : GCoatSheet} (h1 : s.Dry.length ≤ 12) {pre post : List GSpan} {e : GSpan} {day v : Int} (hd : s.Dry = pre ++ e :: post) (hday : day = pre.length) : g_coat_foreseen s day v = some ⟨pre ++ ptS v :: post, s.Work, s.Coats⟩ := by
 have hlen : s.Dry.length = pre.length + (post.length + 1) := by rw [hd]; simp
 unfold g_coat_foreseen
 rw [cloneS_eq (by omega) (by omega)]
 simp only [Option.bind_some]
 have hg : getI s.Dry day = some e := getI_of_drop (by omega) (post := post) (by rw [hd, hday]; simp)
 rw [hg]
 simp only [Option.bind_some]
 rw [hday, hd]
 simp [ptS]
theorem holds_l0 : ∀ (p : List Int) (pre : List Int) (post : List GSpan) (c : Int) (wk : List Int) (cs : List GCoatCoat), c = pre.length → p.length = post.length → pre.length + post.length ≤ 12 →
  g_coat_Holds_l0 p c (pre.map ptS ++ post) wk cs = some (.go ((pre ++ p).map ptS, wk, cs))
 | [], pre, [], c, wk, cs, _, _, _ => by simp [g_coat_Holds_l0]
 | [], pre, _ :: _, c, wk, cs, _, h, _ => by simp at h
 | _ :: _, pre, [], c, wk, cs, _, h, _ => by simp at h
 | e :: p, pre, x :: post, c, wk, cs, hc, h, hl => by
  simp only [List.length_cons] at h hl
  simp only [g_coat_Holds_l0]
  rw [foreseen_eq (s := ⟨pre.map ptS ++ x :: post, wk, cs⟩) (by simp; omega) (pre := pre.map ptS) (post := post) (e := x) rfl (by simpa using hc)]
  simp only [Option.bind_some]
  have := holds_l0 p (pre ++ [e]) post (c + 1) wk cs (by simp; omega) (by omega) (by simp; omega)
  simp only [List.map_append, List.map_cons, List.map_nil, List.append_assoc, List.cons_append, List.nil_append] at this
  rw [this]
  simp
theorem lows_pt (w : List Int) : lowsL (w.map ptS) = w := by simp [lowsL, ptS, Function.comp_def]
theorem highs_pt (w : List Int) : highsL (w.map ptS) = w := by simp [highsL, ptS, Function.comp_def]
theorem inW_ok : ∀ {d : List GSpan} {w : List Int}, (∀ x ∈ d, spanB x = true) → inW d w = true → ∀ v ∈ w, 0 ≤ v ∧ v ≤ 24
 | [], [], _, _, v, hv => by cases hv
 | x :: d, y :: w, h, hi, v, hv => by
  simp only [inW, Bool.and_eq_true, inB_iff] at hi
  have hx := span_iff.1 (h x (by simp))
  rcases List.mem_cons.1 hv with rfl | hv
  ·omega
  ·exact inW_ok (fun z hz => h z (by simp [hz])) hi.2 v hv
 | [], _ :: _, _, hi, _, _ => by cases hi
 | _ :: _, [], _, hi, _, _ => by cases hi
theorem inW_W {d : List GSpan} {w : List Int} (h : DOk d) (hi : inW d w = true) : WOk w := ⟨inW_ok h.s hi, by rw [inW_len hi]; exact h.l.2⟩
theorem DOk.pt {w : List Int} (h : WOk w) (h1 : 1 ≤ w.length) : DOk (w.map ptS) := ⟨fun x hx => by
 obtain ⟨v, hv, rfl⟩ := List.mem_map.1 hx
 have := h.v v hv
 exact span_iff.2 ⟨this.1, Int.le_refl _, this.2⟩, by simp; exact ⟨h1, h.l⟩⟩
theorem holds_eq {s : GCoatSheet} {p w : List Int} (hs : OkS s) (hp : lenOk p = true) (hw : lenOk w = true) : g_coat_Holds s p w = some (cond (sheetB s && (planB s p && inW s.Dry w)) (holdsW s.Dry s.Coats p w, 0) (false, 2)) := by
 unfold g_coat_Holds
 rw [isSheet_eq hs, isPlan_eq hs hp, isWeather_eq hw]
 simp only [Option.bind_some]
 cases h1 : sheetB s with
 | false => rfl
 | true =>
 cases h2 : planB s p with
 | false => rfl
 | true =>
 cases h3 : inW s.Dry w with
 | false => rfl
 | true =>
 have h := VP.of h1 h2
 have hl := inW_len h3
 have hdl := h.dk.l
 have hwo := inW_W h.dk h3
 simp only [cond_true, hw, Bool.and_self]
 have e := holds_l0 w [] s.Dry 0 s.Work s.Coats rfl hl (by simp; omega)
 simp only [List.map_nil, List.nil_append] at e
 rw [e]
 simp only [lbind]
 have hv : VP (w.map ptS) s.Coats p := ⟨DOk.pt hwo (by omega), h.c, h.l, h.u, fun x hx => by have := h.r x hx; simp; omega⟩
 rw [surely_eq (s := ⟨w.map ptS, s.Work, s.Coats⟩) hv]
 unfold sureB worstW holdsW
 simp only [Option.bind_some, lows_pt, highs_pt, List.length_map, hl]
end Go.V
end
