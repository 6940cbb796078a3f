/- Part of a proof: a logic of values by content, lifted functions, what follows. -/
import Derived.Test.YtgdgkkloccpbnaaGreatDoorVbp
import Derived.Test.YtgdgkkloccpbnaaGreatDoorVbf
import Derived.Test.YtgdgkkloccpbnaaGreatDoorVbh
import Derived.Test.YtgdgkkloccpbnaaGreatDoorVbk
import Derived.Test.YtgdgkkloccpbnaaGreatDoorVbo
import Derived.Test.YtgdgkkloccpbnaaGreatDoorVbi
import Derived.Test.YtgdgkkloccpbnaaGreatDoorVbn
import Derived.Test.YtgdgkkloccpbnaaGreatDoorVbj
set_option linter.all false
set_option maxRecDepth 4000
set_option maxHeartbeats 40000000
section
namespace Go.V
open Go Go.Proofs
set_option linter.unusedVariables false
def g_ref03_plansR (s : GCoatSheet) (now : List Int) : Option (List (List Int)) := g_ref03_plans 16 s now
theorem g_ref03_plansR_ok (s : GCoatSheet) (now : List Int) (R : List (List Int)) (h : g_ref03_plansR s now = some R) : VPure Tryz.prog G0 63 [.agg (cGCoatSheet s), .sl (cellsL eI now) (List.length now) false] (.tree (.sl (cellsL (eSl eI) R) (List.length R) false)) := g_ref03_plans_ok 16 s now R h
end Go.V
end
section
namespace Go.V
open Go Go.Proofs
end Go.V
end
section
namespace Go.V
open Go
set_option linter.unusedVariables false
set_option linter.unusedSimpArgs false
def okP (p : List Int) (w : Int) : Bool := match p.getLast? with
 | some a => decide (w > a)
 | none => true
def plansP (W : List Int) : Nat → List Int → List (List Int)
 | 0, p => [p]
 | d + 1, p => W.flatMap fun w => if okP p w then plansP W d (p ++ [w]) else []
theorem flatMap_len {α β : Type} {f : α → List β} {m : Nat} (h : ∀ x, (f x).length ≤ m) : ∀ l : List α, (l.flatMap f).length ≤ l.length * m
 | [] => by simp
 | a :: l => by
  rw [List.flatMap_cons, List.length_append, List.length_cons, Nat.add_mul, Nat.one_mul]
  have := flatMap_len h l
  have := h a
  omega
theorem plansP_len {W : List Int} (hW : W.length ≤ 12) : ∀ (d : Nat) (p : List Int), (plansP W d p).length ≤ 12 ^ d
 | 0, p => by simp [plansP]
 | d + 1, p => by
  rw [plansP, Nat.pow_succ, Nat.mul_comm]
  refine Nat.le_trans (flatMap_len (m := 12 ^ d) (fun w => ?_) W) (Nat.mul_le_mul_right _ hW)
  split
  ·exact plansP_len hW d _
  ·simp
theorem plans_l0 {rc : GCoatSheet → List Int → Option (List (List Int))} {s : GCoatSheet} {now : List Int} {d : Nat} (hW : s.Work.length ≤ 12) (hn : now.length ≤ 1000) (hrc : ∀ w, rc s (now ++ [w]) = some (plansP s.Work d (now ++ [w]))) :
  ∀ (p : List Int) (c : Int) (out : List (List Int)), out.length + p.length * 12 ^ d ≤ 1000000000 → g_ref03_plans_b_l0 rc s now p c out = some (.go (out ++ p.flatMap fun w => if okP now w then plansP s.Work d (now ++ [w]) else []))
 | [], c, out, _ => by simp [g_ref03_plans_b_l0]
 | e :: p, c, out, hl => by
  rw [List.length_cons, Nat.add_mul, Nat.one_mul] at hl
  have hR := plansP_len hW d (now ++ [e])
  have tail : Option.bind (rc s (now ++ [e])) (fun r => cond (neB r) (cond (roomOk 24 (out ++ r).length) (g_ref03_plans_b_l0 rc s now p (c + 1) (out ++ r)) none) (g_ref03_plans_b_l0 rc s now p (c + 1) out)) = some (.go ((out ++ plansP s.Work d (now ++ [e])) ++ p.flatMap fun w => if okP now w then plansP s.Work d (now ++ [w]) else [])) := by
   rw [hrc e, Option.bind_some, show roomOk 24 (out ++ plansP s.Work d (now ++ [e])).length = true by simp [roomOk]; omega, cond_true]
   have i1 := plans_l0 hW hn hrc p (c + 1) (out ++ plansP s.Work d (now ++ [e])) (by rw [List.length_append]; omega)
   cases hne : neB (plansP s.Work d (now ++ [e])) with
   | true => rw [cond_true, i1]
   | false =>
    have hnil := neB_false hne
    rw [hnil, List.append_nil] at i1 ⊢
    rw [cond_false, i1]
  rw [List.flatMap_cons]
  cases hnow : now with
  | nil =>
   subst hnow
   rw [g_ref03_plans_b_l0]
   rw [show ((List.length ([] : List Int) : Int) == 0) = true from rfl, cond_true, show neB ([] : List Int) = false from rfl, cond_false, show roomOk 8 (List.length (([] : List Int) ++ [e])) = true from rfl, cond_true, tail]
   simp [okP]
  | cons a l =>
   have hlen : 1 ≤ now.length := by rw [hnow]; simp
   obtain ⟨x, hx⟩ : ∃ x, now.getLast? = some x := by rw [hnow]; exact ⟨_, List.getLast?_cons⟩
   rw [← hnow]
   rw [g_ref03_plans_b_l0, getI_last hlen (by omega), hx, show ((List.length now : Int) == 0) = false by rw [beq_eq_false_iff_ne]; omega, cond_false, Option.bind_some,
    show neB now = true by rw [hnow]; rfl, cond_true, List.nil_append, show roomOk 8 now.length = true by simp [roomOk]; omega, cond_true, show roomOk 8 (now ++ [e]).length = true by simp [roomOk]; omega, cond_true, tail]
   have hok : okP now e = decide (e > x) := by unfold okP; rw [hx]
   rw [hok]
   by_cases hd : e > x
   ·simp [hd]
   ·have i2 := plans_l0 hW hn hrc p (c + 1) out (by omega)
    simp [hd, i2]
theorem rplans_eq {s : GCoatSheet} (hW : s.Work.length ≤ 12) (hc : s.Coats.length ≤ 5) : ∀ (d n : Nat) (now : List Int), now.length + d = s.Coats.length → d < n → g_ref03_plans n s now = some (plansP s.Work d now)
 | _, 0, _, _, h => absurd h (Nat.not_lt_zero _)
 | 0, n + 1, now, hl, _ => by
  show g_ref03_plans_b (g_ref03_plans n) s now = _
  unfold g_ref03_plans_b
  rw [show ((List.length now : Int) == (List.length s.Coats : Int)) = true by simp; omega]
  rfl
 | d + 1, n + 1, now, hl, hn => by
  show g_ref03_plans_b (g_ref03_plans n) s now = _
  unfold g_ref03_plans_b
  have hp : 12 ^ d ≤ 12 ^ 5 := Nat.pow_le_pow_right (by omega) (by omega)
  have hm : s.Work.length * 12 ^ d ≤ 12 * 12 ^ 5 := Nat.mul_le_mul hW hp
  rw [show ((List.length now : Int) == (List.length s.Coats : Int)) = false by simp; omega, cond_false, lenOk_of (by omega), cond_true,
   plans_l0 hW (by omega) (fun w => rplans_eq hW hc d n (now ++ [w]) (by simp; omega) (by omega)) s.Work 0 [] (by simp; omega)]
  rfl
def stepsP (W : List Int) : List Int → List Int → Bool
 | _, [] => true
 | p, w :: t => W.contains w && (okP p w && stepsP W (p ++ [w]) t)
theorem mem_plansP {W : List Int} : ∀ (d : Nat) (p q : List Int), q ∈ plansP W d p ↔ ∃ t, q = p ++ t ∧ t.length = d ∧ stepsP W p t = true
 | 0, p, q => by
  rw [plansP, List.mem_singleton]
  constructor
  ·rintro rfl; exact ⟨[], by simp, rfl, rfl⟩
  ·rintro ⟨t, rfl, ht, _⟩
   rw [List.length_eq_zero_iff.1 ht, List.append_nil]
 | d + 1, p, q => by
  rw [plansP, List.mem_flatMap]
  constructor
  ·rintro ⟨w, hw, h⟩
   split at h
   ·rename_i hm
    obtain ⟨t, rfl, ht, hs⟩ := (mem_plansP d _ q).1 h
    exact ⟨w :: t, by simp, by simp [ht], by simp only [stepsP, hm, hs, Bool.and_true, List.contains_iff_mem]; exact hw⟩
   ·cases h
  ·rintro ⟨t, rfl, ht, hs⟩
   cases t with
   | nil => simp at ht
   | cons w t =>
    simp only [stepsP, Bool.and_eq_true, List.contains_iff_mem] at hs
    refine ⟨w, hs.1, ?_⟩
    rw [if_pos hs.2.1]
    exact (mem_plansP d _ _).2 ⟨t, by simp, by simpa using ht, hs.2.2⟩
theorem stepsP_up {W : List Int} : ∀ (t p : List Int) (a : Int), stepsP W (p ++ [a]) t = true ↔ (∀ x ∈ t, x ∈ W) ∧ upB (a :: t) = true
 | [], p, a => by simp [stepsP, upB]
 | w :: t, p, a => by
  rw [stepsP, upB_cons, show okP (p ++ [a]) w = decide (w > a) by simp [okP]]
  simp only [Bool.and_eq_true, List.contains_iff_mem, stepsP_up t (p ++ [a]) w, decide_eq_true_eq, List.mem_cons, forall_eq_or_imp]
  constructor
  ·rintro ⟨h1, h2, h3, h4⟩; exact ⟨⟨h1, h3⟩, h2, h4⟩
  ·rintro ⟨⟨h1, h3⟩, h2, h4⟩; exact ⟨h1, h2, h3, h4⟩
theorem stepsP_nil {W : List Int} (t : List Int) : stepsP W [] t = true ↔ (∀ x ∈ t, x ∈ W) ∧ upB t = true := by
 cases t with
 | nil => simp [stepsP, upB]
 | cons w t =>
  rw [stepsP]
  simp only [Bool.and_eq_true, List.contains_iff_mem, stepsP_up t [] w, List.mem_cons, forall_eq_or_imp]
  exact ⟨fun h => ⟨⟨h.1, h.2.2.1⟩, h.2.2.2⟩, fun h => ⟨h.1.1, rfl, h.1.2, h.2⟩⟩
theorem work_len {s : GCoatSheet} (h : ShOk s) : s.Work.length ≤ 12 := by
 have hd := h.dk.l
 cases hW : s.Work with
 | nil => simp
 | cons a l =>
  have h1 := upB_len l a ((s.Dry.length : Int) - 1) (by rw [← hW]; exact h.u) (fun d hd => (h.w d (by rw [hW]; exact hd)).2)
  have h2 := h.w a (by rw [hW]; simp)
  simp only [List.length_cons]
  omega
def allP (s : GCoatSheet) : List (List Int) := plansP s.Work s.Coats.length []
theorem rplansR_eq {s : GCoatSheet} (h : ShOk s) : g_ref03_plansR s [] = some (allP s) := by
 have hc := h.c
 exact rplans_eq (work_len h) (by omega) _ 16 [] (by simp) (by omega)
theorem mem_allP {s : GCoatSheet} (h : ShOk s) (q : List Int) : q ∈ allP s ↔ planB s q = true := by
 unfold allP
 rw [mem_plansP]
 unfold planB incB dayB
 simp only [Bool.and_eq_true, decide_eq_true_eq, List.all_eq_true, inB_iff, List.contains_iff_mem, List.nil_append]
 constructor
 ·rintro ⟨t, rfl, hl, hs⟩
  have := (stepsP_nil _).1 hs
  exact ⟨⟨hl, this.2, fun d hd => h.w d (this.1 d hd)⟩, this.1⟩
 ·rintro ⟨⟨hl, hu, _⟩, hm⟩
  exact ⟨q, rfl, hl, (stepsP_nil q).2 ⟨hm, hu⟩⟩
theorem allP_len {s : GCoatSheet} (h : ShOk s) : (allP s).length ≤ 1000000 := by
 have hc := h.c
 have h1 := plansP_len (work_len h) s.Coats.length []
 have hp : 12 ^ s.Coats.length ≤ 12 ^ 5 := Nat.pow_le_pow_right (by omega) (by omega)
 unfold allP
 omega
theorem VP.ofS {s : GCoatSheet} (h : ShOk s) {q : List Int} (h2 : planB s q = true) : VP s.Dry s.Coats q := by
 unfold planB incB at h2
 simp only [Bool.and_eq_true, inB_iff, List.all_eq_true, decide_eq_true_eq] at h2
 refine ⟨h.dk, h.c, h2.1.1, h2.1.2.1, fun x hx => ?_⟩
 have := h2.1.2.2 x hx
 unfold dayB at this
 exact inB_iff.1 this
end Go.V
end
section
namespace Go.V
open Go
set_option linter.unusedVariables false
theorem setAF {α : Type} {enc : α → List VV} {w : Nat} {xs : List α} {x : α} {i : Int} (o m : Nat) (he : ∀ x, (enc x).length = w) (hm : o + m ≤ w) (h : getI xs i = some x) : (i.toNat * w + o + m ≤ (cellsL enc xs).length) = True := by
 have h1 := of_eq_true (setA (w := w) (enc := enc) he h)
 exact eq_true (by omega)
theorem overwrite_mid (A X B : List VV) (o : Nat) (cs : List VV) (h : o + cs.length ≤ X.length) : overwrite (A ++ (X ++ B)) (A.length + o) cs = A ++ (overwrite X o cs ++ B) := by
 unfold overwrite
 rw [List.take_append, List.take_of_length_le (Nat.le_add_right _ _), show A.length + o - A.length = o by omega, List.take_append_of_le_length (by omega),
  List.drop_append, List.drop_of_length_le (by omega), List.nil_append, show A.length + o + cs.length - A.length = o + cs.length by omega, List.drop_append_of_le_length h]
 simp only [List.append_assoc]
theorem setBF {α : Type} {enc : α → List VV} {w : Nat} {xs : List α} {x : α} {i : Int} (o : Nat) (cs : List VV) (v : α) (he : ∀ x, (enc x).length = w) (hc : o + cs.length ≤ w) (h : getI xs i = some x) (hv : enc v = overwrite (enc x) o cs) : overwrite (cellsL enc xs) (i.toNat * w + o) cs = cellsL enc (xs.set i.toNat v) := by
 obtain ⟨h0, h1, h2⟩ := getI_drop h
 have hn : i.toNat < xs.length := by omega
 have e1 : xs = xs.take i.toNat ++ (x :: xs.drop (i.toNat + 1)) := by
  rw [← h2, List.take_append_drop]
 have e2 : xs.set i.toNat v = xs.take i.toNat ++ (v :: xs.drop (i.toNat + 1)) := by
  rw [List.set_eq_take_append_cons_drop, if_pos hn]
 have hl : (xs.take i.toNat).length = i.toNat := by rw [List.length_take]; omega
 have e3 : cellsL enc xs = cellsL enc (xs.take i.toNat) ++ (enc x ++ cellsL enc (xs.drop (i.toNat + 1))) := by
  conv => lhs; rw [e1, cellsL_append]
  rfl
 have e4 : (cellsL enc (xs.take i.toNat)).length = i.toNat * w := by rw [cellsL_length he, hl]
 rw [e3, ← e4, overwrite_mid _ _ _ _ _ (by rw [he]; exact hc), ← hv, e2, cellsL_append]
 rfl
end Go.V
end
section
namespace Go.V
open Go Go.Proofs
def g_slices_Clone_CoatCoat (xs : List GCoatCoat) : Option (List GCoatCoat) := cond (neB xs) (cond (roomOk 16 xs.length) (some xs) none) none
theorem g_slices_Clone_CoatCoat_ok (xs R : List GCoatCoat) (h : g_slices_Clone_CoatCoat xs = some R) : VPure Tryz.prog G0 111 [.sl (cellsL cGCoatCoat xs) xs.length false] (.own (cellsL cGCoatCoat R) R.length 2) := by
 unfold g_slices_Clone_CoatCoat at h
 cases hn : neB xs with
 | false => rw [hn] at h; cases h
 | true =>
 cases hr : roomOk 16 xs.length with
 | false => rw [hn, hr] at h; cases h
 | true =>
 rw [hn, hr] at h
 simp only [cond_true, Option.some.injEq] at h
 subst h
 have hc : cellsL cGCoatCoat xs ≠ [] := by
  cases xs with
  | nil => cases hn
  | cons a l => intro hh; cases hh
 have hnil : ∀ (H : Nat → Option VObj) (x y : Operand), binV Tryz.prog H .eql 24 x y (.sl (cellsL cGCoatCoat xs) xs.length false) (.lit (.slice none 0 0)) = some (.lit (.bool false)) := fun H x y => binV_slNil Tryz.underlying24 hc
 have hb : vbuildSlice Tryz.prog 24 0 [] = some ([], 2) := by kernel_rfl
 refine VPure.run mixed Tryz.call111 Tryz.func111 rfl (by simp [Tryz.ntmps111]; kernel_rfl) ?_
 simp only [vz, tyf, hnil, hb, List.map_nil, seval]
 refine k_appS (w := 2) (enc := cGCoatCoat) (xs := ([] : List GCoatCoat)) (ys := xs) (el := some 59) (fun _ => rfl) lf24 ao24 Tryz.underlying24 rfl hn (by rw [List.nil_append]; exact hr) ?_
 simp only [vz, tyf, List.nil_append, seval]
 refine ⟨rfl, .ref 5 0 xs.length 2 xs.length, by simp [Tryz.results111, resV, resL, resV1, upd], (cellsL cGCoatCoat xs).length + 1, 5, _, cellsL cGCoatCoat xs, ⟨_, rfl⟩, by simp only [updH_apply, without_apply, seval] <;> rfl, seal_tree _ _ (cGCoatCoat_ok.treeL xs) (Nat.lt_succ_self _)⟩
end Go.V
end
section
namespace Go.V
open Go Go.Proofs
def g_coat_neverPeeling_l0  : List GCoatCoat → Int → (List GCoatCoat) → Option (LOut (GCoatSheet) ((List GCoatCoat)))
 | [], c0_11, c0_o0 => some (.go c0_o0)
 | e0 :: p0, c0_11, c0_o0 => Option.bind (getI c0_o0 c0_11) (fun x2 => g_coat_neverPeeling_l0 p0 (c0_11 + 1) (List.set c0_o0 (Int.toNat c0_11) (GCoatCoat.mk x2.Need 288)))
def g_coat_neverPeeling (x0_s : GCoatSheet) : Option (GCoatSheet) := Option.bind (g_slices_Clone_CoatCoat x0_s.Coats) (fun r1 => cond (lenOk r1) (lbind (g_coat_neverPeeling_l0 r1 0 r1) (fun r4 => some r4) (fun c3 => some (GCoatSheet.mk x0_s.Dry x0_s.Work c3)) (fun _ _ => none)) none)
theorem g_coat_neverPeeling_ok (x0_s : GCoatSheet) (R : GCoatSheet) (h : g_coat_neverPeeling x0_s = some R) : VPure Tryz.prog G0 73 [.agg (cGCoatSheet x0_s)] (.tree (.agg (cGCoatSheet R))) := by
 refine VPure.runR mixed Tryz.call73 Tryz.func73 rfl (by simp [Tryz.ntmps73]; kernel_rfl) ?_
 obtain ⟨KF, h, kF, kN⟩ := fun_intro h
 simp only [g_coat_neverPeeling] at h
 rcases o6 : (g_slices_Clone_CoatCoat x0_s.Coats) with _ | r5
 ·simp only [o6, hs] at h
  exact absurd h kN
 simp only [o6, hs] at h
 simp only [vz, tyf, nm, seval]
 refine kown (args0 := [.sl (cellsL cGCoatCoat x0_s.Coats) (List.length x0_s.Coats) false]) (by first | (simp only [nrm, tynrm] <;> rfl) | rfl) (by simp only [tre, tytre, Bool.and_self]) (g_slices_Clone_CoatCoat_ok _ _ o6) ?_
 cases g8 : (lenOk r5)
 ·simp only [g8, hs] at h
  exact absurd h kN
 simp only [g8, hs] at h
 simp only [vz, tyf, g8, nm, seval]
 obtain ⟨K7, h, kR7, kG7, kB7, kN7⟩ := lbind_intro h kN
 obtain ⟨f7, hf7, h⟩ := call3 h
 obtain ⟨I7, hI7⟩ : ∃ I : Nat → St → Prop, I = (fun m st => ∃ (p7 : List GCoatCoat) (c7_11 : Int) (c7_o0 : List GCoatCoat), m = List.length p7 ∧ 0 ≤ c7_11 ∧ List.drop (Int.toNat c7_11) r5 = p7 ∧ st.df = [] ∧ 11 ≤ st.nx ∧ st.H 0 = some (.cells (some 26) ([.sl (cellsL cGSpan x0_s.Dry) (List.length x0_s.Dry) false] ++ [.sl (cellsL eI x0_s.Work) (List.length x0_s.Work) false] ++ [.ref 4 0 (List.length c7_o0) 2 (List.length c7_o0)])) ∧ st.H 1 = some (.cells (some 26) ([.lit (.slice none 0 0)] ++ [.lit (.slice none 0 0)] ++ [.lit (.slice none 0 0)])) ∧ st.H 4 = some (.cells (none) (cellsL cGCoatCoat c7_o0)) ∧ st.tm 1 = .ptr 0 0 ∧ st.tm 2 = .ptr 1 0 ∧ st.tm 10 = .lit (.int .i64 (List.length r5 : Int)) ∧ st.tm 11 = .lit (.int .i64 c7_11) ∧ K7 (f7 p7 c7_11 c7_o0)) := ⟨_, rfl⟩
 refine loopK mixed (by kernel_rfl) I7 (List.length r5) (by rw [hI7]; refine ⟨r5, 0, r5, rfl, Int.le_refl _, rfl, rfl, (show 11 ≤ 11 by omega), ?_, ?_, ?_, ?_, ?_, ?_, ?_, h⟩ <;> first | (simp only [ua, nm, seval] <;> rfl) | rfl) ?_
 rintro m ⟨tm, H, nx7, df⟩ hinv
 rw [hI7] at hinv
 obtain ⟨p7, c7_11, c7_o0, rfl, hi7, hp7, hdf, hn7, H9, H10, H11, e12, e13, e14, e15, h⟩ := hinv
 simp only at hdf hn7 H9 H10 H11 e12 e13 e14 e15
 have n16 := base_ne0 (m := 11) (b := nx7) (by omega)
 subst hdf hf7
 cases p7 with
 | nil =>
  have d17 : (decide (c7_11 < (List.length r5 : Int))) = false := not_lt_of_drop hi7 hp7
  simp only [g_coat_neverPeeling_l0, hs, reduceCtorEq] at h
  replace h := kG7 _ h
  try dsimp only at h
  try simp only [hs] at h
  try simp only [vz, tyf, g8, n16, e12, e13, e14, e15, H9, H10, H11, d17, nm, seval]
  refine opd_ret (x := (.agg ([.sl (cellsL cGSpan x0_s.Dry) (List.length x0_s.Dry) false] ++ [.sl (cellsL eI x0_s.Work) (List.length x0_s.Work) false] ++ [.ref 4 0 (List.length c7_o0) 2 (List.length c7_o0)]))) (by first | (simp only [Tryz.results73, resV, resL, resV1, tgt_ptr, tgt_tp, uw, cr, tyf, g8, n16, e12, e13, e14, e15, H9, H10, H11, d17, nm, seval] <;> rfl) | rfl) ?_
  obtain rfl := kF _ h
  refine rr_tree ?_ ?_
  ·simp only [tre, tytre, Bool.and_self]
  ·first | (simp only [outV, uw, showV_ref, cr, tyf, nrm, tynrm, g8, n16, e12, e13, e14, e15, H9, H10, H11, d17, nm, seval] <;> rfl) | rfl
 | cons e7 p7 =>
  have d18 : (decide (c7_11 < (List.length r5 : Int))) = true := lt_of_drop hi7 hp7
  have o20 := getI_of_drop hi7 hp7
  have w19 := wrap_next hi7 hp7 g8
  simp only [g_coat_neverPeeling_l0, hs, reduceCtorEq] at h
  rcases o22 : (getI c7_o0 c7_11) with _ | x21
  ·simp only [o22, hs] at h
   exact absurd h kN7
  simp only [o22, hs] at h
  have w23 := setAF (w := 2) (enc := cGCoatCoat) 1 1 (fun _ => rfl) (by decide) o22
  have w24 := setBF (w := 2) (enc := cGCoatCoat) 1 [.lit (.int .i64 288)] (GCoatCoat.mk x21.Need 288) (fun _ => rfl) (by simp) o22 rfl
  simp only [vz, tyf, nm, seval] at w24
  have w25 := setC (w := 2) (enc := cGCoatCoat) c7_o0 (Int.toNat c7_11) (GCoatCoat.mk x21.Need 288) (fun _ => rfl)
  simp only [vz, tyf, g8, n16, e12, e13, e14, e15, H9, H10, H11, d18, (ix24 o20), w19, (ixo24 o22), w23, w24, w25, nm, seval]
  exact ⟨List.length p7, Nat.lt_succ_self _, by rw [hI7]; refine ⟨p7, c7_11 + 1, (List.set c7_o0 (Int.toNat c7_11) (GCoatCoat.mk x21.Need 288)), rfl, Int.le_trans hi7 (Int.le_add_one (Int.le_refl _)), drop_next hi7 hp7, rfl, (show 11 ≤ nx7 + 11 by omega), ?_, ?_, ?_, e12, e13, e14, ?_, h⟩ <;> first | (simp only [ua, n16, e12, e13, e14, e15, H9, H10, H11, d18, w19, w23, w24, w25, nm, seval] <;> rfl) | rfl⟩
end Go.V
end
section
namespace Go.V
open Go Go.Proofs
def g_coat_sums_excess_l0 (x0_x : Gcoatsums) (x1_plan : List Int) : Nat → Int → Int → Option (LOut (Int) (Int))
 | 0, c0_10, c0_5 => some (.go c0_5)
 | k0 + 1, c0_10, c0_5 => Option.bind (getI x1_plan c0_10) (fun x1 => Option.bind (getI x1_plan (c0_10 + 1)) (fun x2 => Option.bind (g_coat_sums_greatest x0_x x1 x2) (fun r3 => Option.bind (getI x0_x.CoatSheet.Coats c0_10) (fun x4 => g_coat_sums_excess_l0 x0_x x1_plan k0 (c0_10 + 1) (if c0_5 < (IntKind.i64.wrap (r3 - x4.Peel)) then (IntKind.i64.wrap (r3 - x4.Peel)) else c0_5)))))
def g_coat_sums_excess (x0_x : Gcoatsums) (x1_plan : List Int) : Option (Int) := cond (boundOk (IntKind.i64.wrap ((List.length x1_plan : Int) - 1))) (lbind (g_coat_sums_excess_l0 x0_x x1_plan (Int.toNat ((IntKind.i64.wrap ((List.length x1_plan : Int) - 1)) - 0)) 0 0) (fun r6 => some r6) (fun c5 => some c5) (fun _ _ => none)) none
theorem g_coat_sums_excess_ok (x0_x : Gcoatsums) (x1_plan : List Int) (R : Int) (h : g_coat_sums_excess x0_x x1_plan = some R) : VPure Tryz.prog G0 75 [.agg (cGcoatsums x0_x), .sl (cellsL eI x1_plan) (List.length x1_plan) false] (.tree (.lit (.int .i64 R))) := by
 refine VPure.runR mixed Tryz.call75 Tryz.func75 rfl (by simp [Tryz.ntmps75]; kernel_rfl) ?_
 obtain ⟨KF, h, kF, kN⟩ := fun_intro h
 simp only [g_coat_sums_excess] at h
 cases g8 : (boundOk (IntKind.i64.wrap ((List.length x1_plan : Int) - 1)))
 ·simp only [g8, hs] at h
  exact absurd h kN
 simp only [g8, hs] at h
 simp only [vz, tyf, g8, nm, seval]
 obtain ⟨K7, h, kR7, kG7, kB7, kN7⟩ := lbind_intro h kN
 obtain ⟨f7, hf7, h⟩ := call3 h
 obtain ⟨I7, hI7⟩ : ∃ I : Nat → St → Prop, I = (fun m st => ∃ (p7 : Nat) (c7_10 : Int) (c7_5 : Int), p7 = m ∧ loOk c7_10 = true ∧ Int.toNat ((IntKind.i64.wrap ((List.length x1_plan : Int) - 1)) - c7_10) = p7 ∧ st.df = [] ∧ 7 ≤ st.nx ∧ st.H 0 = some (.cells (some 81) (cGcoatsums x0_x)) ∧ st.tm 1 = .sl (cellsL eI x1_plan) (List.length x1_plan) false ∧ st.tm 2 = .ptr 0 0 ∧ st.tm 9 = .lit (.int .i64 (IntKind.i64.wrap ((List.length x1_plan : Int) - 1))) ∧ st.tm 5 = .lit (.int .i64 c7_5) ∧ st.tm 10 = .lit (.int .i64 c7_10) ∧ K7 (f7 p7 c7_10 c7_5)) := ⟨_, rfl⟩
 refine loopK mixed (by kernel_rfl) I7 (Int.toNat ((IntKind.i64.wrap ((List.length x1_plan : Int) - 1)) - 0)) (by rw [hI7]; refine ⟨Int.toNat ((IntKind.i64.wrap ((List.length x1_plan : Int) - 1)) - 0), 0, 0, rfl, (by rfl), rfl, rfl, (show 7 ≤ 7 by omega), ?_, ?_, ?_, ?_, ?_, ?_, h⟩ <;> first | (simp only [ua, nm, seval] <;> rfl) | rfl) ?_
 rintro m ⟨tm, H, nx7, df⟩ hinv
 rw [hI7] at hinv
 obtain ⟨p7, c7_10, c7_5, rfl, hi7, hp7, hdf, hn7, H9, e10, e11, e12, e13, e14, h⟩ := hinv
 simp only at hdf hn7 H9 e10 e11 e12 e13 e14
 have n15 := base_ne0 (m := 7) (b := nx7) (by omega)
 subst hdf hf7
 cases p7 with
 | zero =>
  have d16 : (decide (c7_10 < (IntKind.i64.wrap ((List.length x1_plan : Int) - 1)))) = false := cnt_not_lt hp7
  simp only [g_coat_sums_excess_l0, hs, reduceCtorEq] at h
  replace h := kG7 _ h
  try dsimp only at h
  try simp only [hs] at h
  try simp only [vz, tyf, g8, n15, e10, e11, e12, e13, e14, H9, d16, nm, seval]
  refine opd_ret (x := (.lit (.int .i64 c7_5))) (by first | (simp only [Tryz.results75, resV, resL, resV1, tgt_ptr, tgt_tp, uw, cr, tyf, g8, n15, H9, d16, nm, seval] <;> rfl) | rfl) ?_
  obtain rfl := kF _ h
  refine rr_tree ?_ ?_
  ·simp only [tre, tytre, Bool.and_self]
  ·first | (simp only [outV, uw, showV_ref, cr, tyf, nrm, tynrm, g8, n15, e10, e11, e12, e13, e14, H9, d16, nm, seval] <;> rfl) | rfl
 | succ p7 =>
  have d17 : (decide (c7_10 < (IntKind.i64.wrap ((List.length x1_plan : Int) - 1)))) = true := cnt_lt hp7
  have w18 := cnt_wrap hi7 hp7 g8
  simp only [g_coat_sums_excess_l0, hs, reduceCtorEq] at h
  simp only [vz, tyf, g8, n15, e10, e11, e12, e13, e14, H9, d17, w18, nm, seval]
  refine cwp_drwQF (fun tm => tm 1 = .sl (cellsL eI x1_plan) (List.length x1_plan) false ∧ tm 2 = .ptr 0 0 ∧ tm 5 = .lit (.int .i64 c7_5) ∧ tm 6 = .lit (.int .i64 c7_10) ∧ tm 9 = .lit (.int .i64 (IntKind.i64.wrap ((List.length x1_plan : Int) - 1))) ∧ tm 10 = .lit (.int .i64 c7_10) ∧ True) (by refine ⟨e10, e11, e13, ?_, e12, e14, trivial⟩ <;> first | (simp only [ua, n15, e10, e11, e12, e13, e14, H9, d17, w18, nm, seval] <;> rfl) | rfl) ?_
  rintro tm ⟨e19, e20, e21, e22, e23, e24, _⟩
  rcases o26 : (getI x1_plan c7_10) with _ | x25
  ·simp only [o26, hs] at h
   exact absurd h kN7
  simp only [o26, hs] at h
  rcases o28 : (getI x1_plan (c7_10 + 1)) with _ | x27
  ·simp only [o28, hs] at h
   exact absurd h kN7
  simp only [o28, hs] at h
  rcases o30 : (g_coat_sums_greatest x0_x x25 x27) with _ | r29
  ·simp only [o30, hs] at h
   exact absurd h kN7
  simp only [o30, hs] at h
  simp only [vz, tyf, g8, n15, H9, d17, w18, e19, e20, e21, e22, e23, e24, (ix23 o26), (ix23 o28), nm, seval]
  refine dktree (args0 := [.agg (cGcoatsums x0_x), .lit (.int .i64 x25), .lit (.int .i64 x27)]) (by first | (simp only [nrm, tynrm] <;> rfl) | rfl) (by simp only [tre, tytre, Bool.and_self]) (g_coat_sums_greatest_ok _ _ _ _ o30) ?_
  refine fin_cut (fun tm => tm 1 = .sl (cellsL eI x1_plan) (List.length x1_plan) false ∧ tm 2 = .ptr 0 0 ∧ tm 6 = .lit (.int .i64 c7_10) ∧ tm 9 = .lit (.int .i64 (IntKind.i64.wrap ((List.length x1_plan : Int) - 1))) ∧ tm 10 = .lit (.int .i64 c7_10) ∧ tm 13 = .lit (.int .i64 c7_5) ∧ tm 24 = .lit (.int .i64 r29) ∧ True) (by refine ⟨e19, e20, e22, e23, e24, ?_, ?_, trivial⟩ <;> first | (simp only [ua, n15, H9, d17, w18, e19, e20, e21, e22, e23, e24, nm, seval] <;> rfl) | rfl) ?_
  rintro tm ⟨e31, e32, e33, e34, e35, e36, e37, _⟩
  rcases o39 : (getI x0_x.CoatSheet.Coats c7_10) with _ | x38
  ·simp only [o39, hs] at h
   exact absurd h kN7
  simp only [o39, hs] at h
  simp only [vz, tyf, g8, n15, H9, d17, w18, (ix23 o26), (ix23 o28), e31, e32, e33, e34, e35, e36, e37, (ix24 o39), nm, seval]
  exact ⟨p7, Nat.lt_succ_self _, by rw [hI7]; refine ⟨p7, c7_10 + 1, (if c7_5 < (IntKind.i64.wrap (r29 - x38.Peel)) then (IntKind.i64.wrap (r29 - x38.Peel)) else c7_5), rfl, cnt_lo hi7, cnt_next hp7, rfl, (show 7 ≤ nx7 + 27 by omega), ?_, e31, e32, e34, ?_, ?_, h⟩ <;> first | (simp only [ua, n15, H9, d17, w18, e31, e32, e33, e34, e35, e36, e37, nm, seval] <;> rfl) | rfl⟩
end Go.V
end
section
namespace Go.V
open Go Go.Proofs
def g_coat_Slack_1 (x0_a : List Int) (x1_b : List Int) (x2_a2 : Gcoatsums) : Option (Bool) := Option.bind (g_coat_sums_excess x2_a2 x0_a) (fun r1 => Option.bind (g_coat_sums_excess x2_a2 x1_b) (fun r2 => some (decide (r1 < r2))))
theorem g_coat_Slack_1_ok (x0_a : List Int) (x1_b : List Int) (x2_a2 : Gcoatsums) (R : Bool) (h : g_coat_Slack_1 x0_a x1_b x2_a2 = some R) : VPure Tryz.prog G0 74 [.sl (cellsL eI x0_a) (List.length x0_a) false, .sl (cellsL eI x1_b) (List.length x1_b) false, .tp (cGcoatsums x2_a2)] (.tree (.lit (.bool R))) := by
 refine VPure.runR mixed Tryz.call74 Tryz.func74 rfl (by simp [Tryz.ntmps74]; kernel_rfl) ?_
 obtain ⟨KF, h, kF, kN⟩ := fun_intro h
 simp only [g_coat_Slack_1] at h
 simp only [vz, tyf, nm, seval]
 refine cwp_drwQF (fun tm => tm 0 = .sl (cellsL eI x0_a) (List.length x0_a) false ∧ tm 1 = .sl (cellsL eI x1_b) (List.length x1_b) false ∧ tm 2 = .tp (cGcoatsums x2_a2) ∧ True) (by refine ⟨?_, ?_, ?_, trivial⟩ <;> first | (simp only [ua, nm, seval] <;> rfl) | rfl) ?_
 rintro tm ⟨e3, e4, e5, _⟩
 rcases o7 : (g_coat_sums_excess x2_a2 x0_a) with _ | r6
 ·simp only [o7, hs] at h
  exact absurd h kN
 simp only [o7, hs] at h
 simp only [vz, tyf, e3, e4, e5, nm, seval]
 refine dktree (args0 := [.agg (cGcoatsums x2_a2), .sl (cellsL eI x0_a) (List.length x0_a) false]) (by first | (simp only [nrm, tynrm] <;> rfl) | rfl) (by simp only [tre, tytre, Bool.and_self]) (g_coat_sums_excess_ok _ _ _ o7) ?_
 refine fin_cut (fun tm => tm 1 = .sl (cellsL eI x1_b) (List.length x1_b) false ∧ tm 2 = .tp (cGcoatsums x2_a2) ∧ tm 8 = .lit (.int .i64 r6) ∧ True) (by refine ⟨e4, e5, ?_, trivial⟩ <;> first | (simp only [ua, e3, e4, e5, nm, seval] <;> rfl) | rfl) ?_
 rintro tm ⟨e8, e9, e10, _⟩
 rcases o12 : (g_coat_sums_excess x2_a2 x1_b) with _ | r11
 ·simp only [o12, hs] at h
  exact absurd h kN
 simp only [o12, hs] at h
 simp only [vz, tyf, e8, e9, e10, nm, seval]
 refine dktree (args0 := [.agg (cGcoatsums x2_a2), .sl (cellsL eI x1_b) (List.length x1_b) false]) (by first | (simp only [nrm, tynrm] <;> rfl) | rfl) (by simp only [tre, tytre, Bool.and_self]) (g_coat_sums_excess_ok _ _ _ o12) ?_
 refine fin_cut (fun tm => tm 8 = .lit (.int .i64 r6) ∧ tm 11 = .lit (.int .i64 r11) ∧ True) (by refine ⟨e10, ?_, trivial⟩ <;> first | (simp only [ua, e8, e9, e10, nm, seval] <;> rfl) | rfl) ?_
 rintro tm ⟨e13, e14, _⟩
 try simp only [vz, tyf, e13, e14, nm, seval]
 obtain rfl := kF _ h
 exact opd_bool Tryz.results74 rfl
end Go.V
end
section
namespace Go.V
open Go Go.Proofs
set_option linter.unusedSimpArgs false
set_option linter.unusedVariables false
set_option maxRecDepth 4000
set_option maxHeartbeats 4000000
theorem ktreeP {P : Program} {G : Glob} {f : FuncId} {args : List VV} {x : VV} {d : Option Tmp} {γ : Nat} {tm : Nat → VV} {H : Nat → Option VObj} {nx : Nat} {df : List VDef} {K : St → Prop} {Qp : VV → St → Prop} (ht : treeL args = true) (hp : VPure P G f args (.tree x)) (h : fin d γ tm H nx df K x .none) : callK P G f args ⟨tm, H, nx, df⟩ d γ K Qp := by
 refine .inl ⟨ht, .tree x, hp, ?_⟩
 rw [← fin_eq (K := K), stepTo_none] at h
 exact h
def g_coat_Slack (s : GCoatSheet) : Option (Int × Int) := Option.bind (g_coat_isSheet s) fun b1 => cond b1
 (Option.bind (g_coat_summed s) fun x => Option.bind (g_coat_neverPeeling s) fun s2 => Option.bind (g_coat_summed s2) fun x2 => Option.bind (it_coat_plans x2) fun L => Option.bind (bestO (fun a b => g_coat_Slack_1 a b x) L ([], false)) fun r => cond r.2 (Option.bind (g_coat_sums_excess x r.1) fun n => some (n, 0)) (some (0, 5)))
 (some (0, 2))
theorem g_coat_Slack_ok (s : GCoatSheet) (R : Int × Int) (h : g_coat_Slack s = some R) : VPure Tryz.prog G0 38 [.agg (cGCoatSheet s)] (.tree (.tup [.lit (.int .i64 R.1), .lit (.int .i64 R.2)])) := by
 refine VPure.runRW Tryz.call38 Tryz.func38 rfl (by simp [Tryz.ntmps38]) ?_
 refine vwp_seq mixed (by kernel_rfl) ?_
 simp only [vz, tyf, seval, nm, ua, rg]
 have ht1 : treeL (cGCoatSheet s) = true := cGCoatSheet_ok.tree s
 unfold g_coat_Slack at h
 rcases o1 : g_coat_isSheet s with _ | b1
 ·rw [o1] at h; cases h
 rw [o1, Option.bind_some] at h
 refine vwp_seq mixed (by kernel_rfl) ?_
 simp only [vz, tyf, seval, nm, ua, rg]
 refine ktree (args0 := [.agg (cGCoatSheet s)]) (by first | (simp only [nrm, tynrm] <;> rfl) | rfl) (by simp only [tre, tytre, Bool.and_self]) (g_coat_isSheet_ok _ _ o1) ?_
 simp only [vz, tyf, seval, nm, ua, rg]
 cases b1 with
 | false =>
  simp only [cond_false, Option.some.injEq] at h
  subst h
  simp only [vz, tyf, seval, nm, ua, rg, Bool.not_false]
  refine opd_ret (x := .tup [.lit (.int .i64 0), .lit (.int .i64 2)]) (by simp only [Tryz.results38, resV, resL, resV1, tgt_ptr, tgt_tp, uw, cr, tyf, nm, seval] <;> rfl) ?_
  refine rr_tree (by simp only [tre, tytre]; rfl) ?_
  simp only [outV, nrm, seval, List.map_cons, List.map_nil, cellsL_nil, List.length_nil]
 | true =>
 rw [cond_true] at h
 simp only [vz, tyf, seval, nm, ua, rg, Bool.not_true]
 rcases o2 : g_coat_summed s with _ | x
 ·rw [o2] at h; cases h
 rw [o2, Option.bind_some] at h
 refine vwp_seq mixed (by kernel_rfl) ?_
 simp only [vz, tyf, seval, nm, ua, rg]
 refine ktree (args0 := [.agg (cGCoatSheet s)]) (by first | (simp only [nrm, tynrm] <;> rfl) | rfl) (by simp only [tre, tytre, Bool.and_self]) (g_coat_summed_ok _ _ o2) ?_
 simp only [vz, tyf, seval, nm, ua, rg]
 have hxt : treeL (cGcoatsums x) = true := cGcoatsums_ok.tree x
 refine VWp.freeze2 (a := 1) (b := 4) (γ := 0) (δ := 8) (e1 := some 26) (e2 := some 81) (c1 := cGCoatSheet s) (c2 := cGcoatsums x) (by simp only [ua, seval]) (by simp only [ua, seval]) (by simp only [ua, seval]; rfl) (by simp only [ua, seval]; rfl) ht1 hxt (by intro y h0 h1; simp [updH, h0, h1]) ?_
 refine vwp_end mixed (by kernel_rfl) ?_
 rcases o3 : g_coat_neverPeeling s with _ | s2
 ·rw [o3] at h; cases h
 rw [o3, Option.bind_some] at h
 rcases o4 : g_coat_summed s2 with _ | x2
 ·rw [o4] at h; cases h
 rw [o4, Option.bind_some] at h
 rcases o5 : it_coat_plans x2 with _ | L
 ·rw [o5] at h; cases h
 rw [o5, Option.bind_some] at h
 rcases o6 : bestO (fun a b => g_coat_Slack_1 a b x) L ([], false) with _ | r
 ·rw [o6] at h; cases h
 rw [o6, Option.bind_some] at h
 obtain ⟨itv, hti, hp, hit⟩ := it_coat_plans_ok x2 L o5
 have hmt : treeL [VV.tp (cGcoatsums x)] = true := by simp [treeL, VV.tree, hxt]
 have hbo := bestOf_ok (bf := 74) (mc := [.tp (cGcoatsums x)]) hit hmt (better := fun a b => g_coat_Slack_1 a b x) (fun a b t ht => g_coat_Slack_1_ok a b x t ht) r o6
 simp only [vz, tyf, seval, nm, ua, rg]
 refine ktree (args0 := [.agg (cGCoatSheet s)]) (by first | (simp only [nrm, tynrm] <;> rfl) | rfl) (by simp only [tre, tytre, Bool.and_self]) (g_coat_neverPeeling_ok _ _ o3) ?_
 simp only [vz, tyf, seval, nm, ua, rg]
 refine ktree (args0 := [.agg (cGCoatSheet s2)]) (by first | (simp only [nrm, tynrm] <;> rfl) | rfl) (by simp only [tre, tytre, Bool.and_self]) (g_coat_summed_ok _ _ o4) ?_
 simp only [vz, tyf, seval, nm, ua, rg]
 refine ktree (args0 := [.agg (cGcoatsums x2)]) (by first | (simp only [nrm, tynrm] <;> rfl) | rfl) (by simp only [tre, tytre, Bool.and_self]) hp ?_
 simp only [vz, tyf, seval, nm, ua, rg]
 refine ktreeP (by simp [treeL, VV.tree, hti, hxt]; exact ⟨cGSpan_ok.treeL _, eI_ok.treeL _, cGCoatCoat_ok.treeL _, eI_ok.treeL _, eI_ok.treeL _⟩) hbo ?_
 simp only [vz, tyf, seval, nm, ua, rg]
 obtain ⟨r1, r2⟩ := r
 cases r2 with
 | false =>
  simp only [cond_false, Option.some.injEq] at h
  subst h
  simp only [vz, tyf, seval, nm, ua, rg, Bool.not_false]
  refine opd_ret (x := .tup [.lit (.int .i64 0), .lit (.int .i64 5)]) (by simp only [Tryz.results38, resV, resL, resV1, uw, nm, seval] <;> rfl) ?_
  refine rr_tree (by simp only [tre, tytre, Bool.and_self]) ?_
  simp only [outV, nrm, seval, List.map_cons, List.map_nil, cellsL_nil, List.length_nil]
 | true =>
  simp only [cond_true] at h
  rcases o7 : g_coat_sums_excess x r1 with _ | n
  ·rw [o7] at h; cases h
  rw [o7, Option.bind_some, Option.some.injEq] at h
  subst h
  simp only [vz, tyf, seval, nm, ua, rg, Bool.not_true]
  refine ktree (args0 := [.agg (cGcoatsums x), sI r1]) (by first | (simp only [nrm, tynrm] <;> rfl) | rfl) (by simp only [tre, tytre, Bool.and_self]) (g_coat_sums_excess_ok _ _ _ o7) ?_
  simp only [vz, tyf, seval, nm, ua, rg]
  refine opd_ret (x := .tup [.lit (.int .i64 n), .lit (.int .i64 0)]) (by simp only [Tryz.results38, resV, resL, resV1, uw, nm, seval] <;> rfl) ?_
  refine rr_tree (by simp only [tre, tytre, Bool.and_self]) ?_
  simp only [outV, nrm, seval, List.map_cons, List.map_nil]
end Go.V
end
section
namespace Go.V
open Go Go.Proofs
end Go.V
end
section
namespace Go.V
open Go
set_option linter.unusedVariables false
set_option linter.unusedSimpArgs false
def nevK (k : GCoatCoat) : GCoatCoat := ⟨k.Need, 288⟩
def nevS (s : GCoatSheet) : GCoatSheet := ⟨s.Dry, s.Work, s.Coats.map nevK⟩
theorem never_l0 : ∀ (p r pre : List GCoatCoat) (c : Int), c = pre.length → p.length = r.length → g_coat_neverPeeling_l0 p c (pre ++ r) = some (.go (pre ++ r.map nevK))
 | [], [], pre, c, hc, _ => rfl
 | e :: p, x :: r, pre, c, hc, hl => by
  have hd : (pre ++ x :: r).drop c.toNat = x :: r := by
   rw [show c.toNat = pre.length by omega, List.drop_left]
  have hs : (pre ++ x :: r).set c.toNat (GCoatCoat.mk x.Need 288) = (pre ++ [nevK x]) ++ r := by
   rw [show c.toNat = pre.length by omega]
   simp [nevK]
  rw [g_coat_neverPeeling_l0, getI_of_drop (by omega) hd, Option.bind_some, hs, never_l0 p r (pre ++ [nevK x]) (c + 1) (by simp; omega) (by simpa using hl)]
  simp
theorem cloneC_eq {p : List GCoatCoat} (h1 : 1 ≤ p.length) (h2 : p.length ≤ 1000) : g_slices_Clone_CoatCoat p = some p := by
 unfold g_slices_Clone_CoatCoat
 rw [show roomOk 16 p.length = true by simp [roomOk]; omega, show neB p = true by cases p with | nil => simp at h1 | cons a p => rfl]
 rfl
theorem never_eq {s : GCoatSheet} (h : ShOk s) : g_coat_neverPeeling s = some (nevS s) := by
 have hc := h.c
 unfold g_coat_neverPeeling
 rw [cloneC_eq (by omega) (by omega), Option.bind_some, lenOk_of (by omega), cond_true]
 have := never_l0 s.Coats s.Coats [] 0 rfl rfl
 rw [List.nil_append, List.nil_append] at this
 rw [this]
 rfl
def exL (hi : Int → Int) : List Int → List GCoatCoat → Int
 | a :: b :: q, k :: cs => if exL hi (b :: q) cs < hi b - hi a - k.Peel then hi b - hi a - k.Peel else exL hi (b :: q) cs
 | _, _ => 0
theorem exL_nonneg {hi : Int → Int} : ∀ (q : List Int) (cs : List GCoatCoat), 0 ≤ exL hi q cs
 | [], _ => by simp [exL]
 | [a], _ => by simp [exL]
 | a :: b :: q, [] => by simp [exL]
 | a :: b :: q, k :: cs => by
  have := exL_nonneg (hi := hi) (b :: q) cs
  rw [exL]
  split <;> omega
theorem excess_l0 {s : GCoatSheet} (h : ShOk s) (hk : ∀ k ∈ s.Coats, 0 ≤ k.Peel ∧ k.Peel ≤ 400) {pl : List Int} (hr : ∀ d ∈ pl, 0 ≤ d ∧ d ≤ (s.Dry.length : Int)) : ∀ (p : List Int) (cs : List GCoatCoat) (c acc : Int), 0 ≤ c → pl.drop c.toNat = p → s.Coats.drop c.toNat = cs → p.length = cs.length → 0 ≤ acc →
  g_coat_sums_excess_l0 (sumsOf s) pl (p.length - 1) c acc = some (.go (if acc < exL (hiS s) p cs then exL (hiS s) p cs else acc))
 | [], cs, c, acc, _, _, _, _, ha => by
  rw [show exL (hiS s) [] cs = 0 by simp [exL], if_neg (by omega)]
  rfl
 | [a], cs, c, acc, _, _, _, _, ha => by
  rw [show exL (hiS s) [a] cs = 0 by simp [exL], if_neg (by omega)]
  rfl
 | a :: b :: q, k :: cs, c, acc, h0, hp, hc, hl, ha => by
  have e1 := getI_of_drop h0 hp
  have hp2 := drop_next h0 hp
  have e2 := getI_of_drop (by omega) hp2
  have e3 : getI (sumsOf s).CoatSheet.Coats c = some k := getI_of_drop h0 hc
  have ma : a ∈ pl := List.mem_of_mem_drop (by rw [hp]; simp)
  have mb : b ∈ pl := List.mem_of_mem_drop (by rw [hp]; simp)
  have mk : k ∈ s.Coats := List.mem_of_mem_drop (by rw [hc]; simp)
  have hk1 := hk k mk
  have e4 := greatest_eq (x := sumsOf s) (hi := hiS s) (fun k h0 h1 => getI_pre h0 h1) (SI_bd h.dk.high) (hr a ma) (hr b mb)
  have b1 := SI_bd h.dk.high a
  have b2 := SI_bd h.dk.high b
  have hw : IntKind.i64.wrap ((hiS s b - hiS s a) - k.Peel) = hiS s b - hiS s a - k.Peel := wrap_eq (by show _ ≤ SI _ b - SI _ a - _; omega) (by show SI _ b - SI _ a - _ < _; omega)
  have ih := fun acc' => excess_l0 h hk hr (b :: q) cs (c + 1) acc' (by omega) hp2 (drop_next h0 hc) (by simpa using hl)
  show g_coat_sums_excess_l0 (sumsOf s) pl (q.length + 1) c acc = _
  rw [g_coat_sums_excess_l0, e1, Option.bind_some, e2, Option.bind_some, e4, Option.bind_some, e3, Option.bind_some, hw]
  have hih := ih (if acc < hiS s b - hiS s a - k.Peel then hiS s b - hiS s a - k.Peel else acc) (by split <;> omega)
  rw [show (b :: q).length - 1 = q.length from rfl] at hih
  rw [hih, exL]
  congr 2
  split <;> split <;> split <;> (try split) <;> omega
theorem excess_eq {s : GCoatSheet} (h : ShOk s) (hk : ∀ k ∈ s.Coats, 0 ≤ k.Peel ∧ k.Peel ≤ 400) {q : List Int} (hl : q.length = s.Coats.length) (hr : ∀ d ∈ q, 0 ≤ d ∧ d ≤ (s.Dry.length : Int) - 1) : g_coat_sums_excess (sumsOf s) q = some (exL (hiS s) q s.Coats) := by
 have hc := h.c
 unfold g_coat_sums_excess
 rw [wrap_eq (by omega) (by omega), show boundOk ((q.length : Int) - 1) = true by simp [boundOk]; omega, cond_true, show Int.toNat ((q.length : Int) - 1 - 0) = q.length - 1 by omega,
  excess_l0 h hk (fun d hd => by have := hr d hd; omega) q s.Coats 0 0 (by omega) rfl rfl hl (by omega)]
 have := exL_nonneg (hi := hiS s) q s.Coats
 show some _ = some _
 congr 1
 split <;> omega
theorem ShOk.nev {s : GCoatSheet} (h : ShOk s) : ShOk (nevS s) := ⟨h.dk, by unfold nevS; simp only [List.length_map]; exact h.c, h.w, h.wl, h.u⟩
theorem planB_range {s : GCoatSheet} {q : List Int} (h : planB s q = true) : q.length = s.Coats.length ∧ ∀ d ∈ q, 0 ≤ d ∧ d ≤ (s.Dry.length : Int) - 1 := by
 unfold planB incB at h
 simp only [Bool.and_eq_true, inB_iff, List.all_eq_true, decide_eq_true_eq] at h
 refine ⟨h.1.1, fun x hx => ?_⟩
 have := h.1.2.2 x hx
 unfold dayB at this
 exact inB_iff.1 this
theorem slack_eq {s : GCoatSheet} (hs : OkS s) (h1 : sheetB s = true) (hk : ∀ k ∈ s.Coats, 0 ≤ k.Peel ∧ k.Peel ≤ 400) :
  (g_coat_Slack s = some (0, 5) ∧ ∀ q, ¬ (planB (nevS s) q = true ∧ sureB s.Dry (nevS s).Coats q = true)) ∨
  (∃ q, g_coat_Slack s = some (exL (hiS s) q s.Coats, 0) ∧ (planB (nevS s) q = true ∧ sureB s.Dry (nevS s).Coats q = true) ∧ ∀ x, (planB (nevS s) x = true ∧ sureB s.Dry (nevS s).Coats x = true) → exL (hiS s) q s.Coats ≤ exL (hiS s) x s.Coats) := by
 have h := ShOk.of h1
 have hn := h.nev
 obtain ⟨L, e, hm, hp, _⟩ := plans_eq hn
 have e0 : ∀ r, bestO (fun a b => g_coat_Slack_1 a b (sumsOf s)) L ([], false) = some r → g_coat_Slack s = cond r.2 (Option.bind (g_coat_sums_excess (sumsOf s) r.1) fun n => some (n, 0)) (some (0, 5)) := by
  intro r hr
  unfold g_coat_Slack
  rw [isSheet_eq hs, h1, Option.bind_some, cond_true, summed_of h.dk, Option.bind_some, never_eq h, Option.bind_some, summed_of hn.dk, Option.bind_some, e, Option.bind_some, hr, Option.bind_some]
 have hex : ∀ q ∈ L, g_coat_sums_excess (sumsOf s) q = some (exL (hiS s) q s.Coats) := fun q hq => by
  have := planB_range ((hm q).1 hq).1
  exact excess_eq h hk (by rw [this.1]; simp [nevS]) this.2
 cases hL : L with
 | nil =>
  left
  refine ⟨e0 ([], false) (by rw [hL]; rfl), fun q hq => ?_⟩
  have := (hm q).2 hq
  rw [hL] at this
  cases this
 | cons y M =>
  right
  have hb : ∀ a, a ∈ y :: M → ∀ c, c ∈ y :: M → (fun a b => g_coat_Slack_1 a b (sumsOf s)) a c = some (decide (exL (hiS s) a s.Coats < exL (hiS s) c s.Coats)) := by
   intro a ha c hcc
   rw [← hL] at ha hcc
   show g_coat_Slack_1 a c (sumsOf s) = _
   unfold g_coat_Slack_1
   rw [hex a ha, hex c hcc]
   rfl
  obtain ⟨q, hq, hqm, hqx⟩ := bestO_some (f := fun x => exL (hiS s) x s.Coats) hb (by rw [← hL]; exact hp)
  rw [← hL] at hqm
  refine ⟨q, ?_, (hm q).1 hqm, fun x hx => (hqx x (by rw [← hL]; exact (hm x).2 hx)).1⟩
  rw [e0 (q, true) (by rw [hL]; exact hq), cond_true, hex q hqm]
  rfl
end Go.V
end
section
namespace Go.V
open Go Go.Proofs
def g_ref03_lacks_l0 (x0_s : GCoatSheet) (x1_plan : List Int) : List Int → Int → Int → Option (LOut (Int) (Int))
 | [], c0_6, c0_5 => some (.go c0_5)
 | e0 :: p0, c0_6, c0_5 => Option.bind (g_ref03_Lows x0_s) (fun r1 => Option.bind (g_ref03_early x0_s x1_plan c0_6 r1) (fun r2 => cond (r2) (some (.ret (-1))) (cond (decide ((c0_6 + 1) < (List.length x1_plan : Int))) (Option.bind (g_ref03_Highs x0_s) (fun r3 => Option.bind (g_ref03_Dries x1_plan c0_6 r3) (fun r4 => Option.bind (getI x0_s.Coats c0_6) (fun x5 => g_ref03_lacks_l0 x0_s x1_plan p0 (c0_6 + 1) (if c0_5 < (IntKind.i64.wrap (r4 - x5.Peel)) then (IntKind.i64.wrap (r4 - x5.Peel)) else c0_5))))) (g_ref03_lacks_l0 x0_s x1_plan p0 (c0_6 + 1) c0_5))))
def g_ref03_lacks (x0_s : GCoatSheet) (x1_plan : List Int) : Option (Int) := cond (lenOk x1_plan) (lbind (g_ref03_lacks_l0 x0_s x1_plan x1_plan 0 0) (fun r7 => some r7) (fun c6 => some c6) (fun _ _ => none)) none
theorem g_ref03_lacks_ok (x0_s : GCoatSheet) (x1_plan : List Int) (R : Int) (h : g_ref03_lacks x0_s x1_plan = some R) : VPure Tryz.prog G0 76 [.agg (cGCoatSheet x0_s), .sl (cellsL eI x1_plan) (List.length x1_plan) false] (.tree (.lit (.int .i64 R))) := by
 refine VPure.runR mixed Tryz.call76 Tryz.func76 rfl (by simp [Tryz.ntmps76]; kernel_rfl) ?_
 obtain ⟨KF, h, kF, kN⟩ := fun_intro h
 simp only [g_ref03_lacks] at h
 cases g9 : (lenOk x1_plan)
 ·simp only [g9, hs] at h
  exact absurd h kN
 simp only [g9, hs] at h
 simp only [vz, tyf, g9, nm, seval]
 obtain ⟨K8, h, kR8, kG8, kB8, kN8⟩ := lbind_intro h kN
 obtain ⟨f8, hf8, h⟩ := call3 h
 obtain ⟨I8, hI8⟩ : ∃ I : Nat → St → Prop, I = (fun m st => ∃ (p8 : List Int) (c8_6 : Int) (c8_5 : Int), m = List.length p8 ∧ 0 ≤ c8_6 ∧ List.drop (Int.toNat c8_6) x1_plan = p8 ∧ st.df = [] ∧ 4 ≤ st.nx ∧ st.H 0 = some (.cells (some 26) (cGCoatSheet x0_s)) ∧ st.tm 1 = .sl (cellsL eI x1_plan) (List.length x1_plan) false ∧ st.tm 2 = .ptr 0 0 ∧ st.tm 5 = .lit (.int .i64 c8_5) ∧ st.tm 6 = .lit (.int .i64 c8_6) ∧ K8 (f8 p8 c8_6 c8_5)) := ⟨_, rfl⟩
 refine loopK mixed (by kernel_rfl) I8 (List.length x1_plan) (by rw [hI8]; refine ⟨x1_plan, 0, 0, rfl, Int.le_refl _, rfl, rfl, (show 4 ≤ 4 by omega), ?_, ?_, ?_, ?_, ?_, h⟩ <;> first | (simp only [ua, nm, seval] <;> rfl) | rfl) ?_
 rintro m ⟨tm, H, nx8, df⟩ hinv
 rw [hI8] at hinv
 obtain ⟨p8, c8_6, c8_5, rfl, hi8, hp8, hdf, hn8, H10, e11, e12, e13, e14, h⟩ := hinv
 simp only at hdf hn8 H10 e11 e12 e13 e14
 have n15 := base_ne0 (m := 4) (b := nx8) (by omega)
 subst hdf hf8
 cases p8 with
 | nil =>
  have d16 : (decide (c8_6 < (List.length x1_plan : Int))) = false := not_lt_of_drop hi8 hp8
  simp only [g_ref03_lacks_l0, hs, reduceCtorEq] at h
  replace h := kG8 _ h
  try dsimp only at h
  try simp only [hs] at h
  try simp only [vz, tyf, g9, n15, e11, e12, e13, e14, H10, d16, nm, seval]
  refine opd_ret (x := (.lit (.int .i64 c8_5))) (by first | (simp only [Tryz.results76, resV, resL, resV1, tgt_ptr, tgt_tp, uw, cr, tyf, g9, n15, H10, d16, nm, seval] <;> rfl) | rfl) ?_
  obtain rfl := kF _ h
  refine rr_tree ?_ ?_
  ·simp only [tre, tytre, Bool.and_self]
  ·first | (simp only [outV, uw, showV_ref, cr, tyf, nrm, tynrm, g9, n15, e11, e12, e13, e14, H10, d16, nm, seval] <;> rfl) | rfl
 | cons e8 p8 =>
  have d17 : (decide (c8_6 < (List.length x1_plan : Int))) = true := lt_of_drop hi8 hp8
  have o19 := getI_of_drop hi8 hp8
  have w18 := wrap_next hi8 hp8 g9
  simp only [g_ref03_lacks_l0, hs, reduceCtorEq] at h
  simp only [vz, tyf, g9, n15, e11, e12, e13, e14, H10, d17, (ix23 o19), w18, nm, seval]
  refine cwp_drwQF (fun tm => tm 1 = .sl (cellsL eI x1_plan) (List.length x1_plan) false ∧ tm 2 = .ptr 0 0 ∧ tm 5 = .lit (.int .i64 c8_5) ∧ tm 6 = .lit (.int .i64 c8_6) ∧ True) (by refine ⟨e11, e12, e13, e14, trivial⟩ <;> first | (simp only [ua, n15, e11, e12, e13, e14, H10, d17, w18, nm, seval] <;> rfl) | rfl) ?_
  rintro tm ⟨e20, e21, e22, e23, _⟩
  rcases o25 : (g_ref03_Lows x0_s) with _ | r24
  ·simp only [o25, hs] at h
   exact absurd h kN8
  simp only [o25, hs] at h
  simp only [vz, tyf, g9, n15, H10, d17, (ix23 o19), w18, e20, e21, e22, e23, nm, seval]
  refine dktree (args0 := [.agg (cGCoatSheet x0_s)]) (by first | (simp only [nrm, tynrm] <;> rfl) | rfl) (by simp only [tre, tytre, Bool.and_self]) (g_ref03_Lows_ok _ _ o25) ?_
  refine fin_cut (fun tm => tm 1 = .sl (cellsL eI x1_plan) (List.length x1_plan) false ∧ tm 2 = .ptr 0 0 ∧ tm 5 = .lit (.int .i64 c8_5) ∧ tm 6 = .lit (.int .i64 c8_6) ∧ tm 13 = .agg (cGCoatSheet x0_s) ∧ tm 14 = .sl (cellsL eI x1_plan) (List.length x1_plan) false ∧ tm 15 = .lit (.int .i64 c8_6) ∧ tm 17 = .sl (cellsL eI r24) (List.length r24) false ∧ True) (by refine ⟨e20, e21, e22, e23, ?_, ?_, ?_, ?_, trivial⟩ <;> first | (simp only [ua, n15, H10, d17, w18, e20, e21, e22, e23, nm, seval] <;> rfl) | rfl) ?_
  rintro tm ⟨e26, e27, e28, e29, e30, e31, e32, e33, _⟩
  rcases o35 : (g_ref03_early x0_s x1_plan c8_6 r24) with _ | r34
  ·simp only [o35, hs] at h
   exact absurd h kN8
  simp only [o35, hs] at h
  simp only [vz, tyf, g9, n15, H10, d17, (ix23 o19), w18, e26, e27, e28, e29, e30, e31, e32, e33, nm, seval]
  refine dktree (args0 := [.agg (cGCoatSheet x0_s), .sl (cellsL eI x1_plan) (List.length x1_plan) false, .lit (.int .i64 c8_6), .sl (cellsL eI r24) (List.length r24) false]) (by first | (simp only [nrm, tynrm] <;> rfl) | rfl) (by simp only [tre, tytre, Bool.and_self]) (g_ref03_early_ok _ _ _ _ _ o35) ?_
  refine fin_cut (fun tm => tm 1 = .sl (cellsL eI x1_plan) (List.length x1_plan) false ∧ tm 2 = .ptr 0 0 ∧ tm 5 = .lit (.int .i64 c8_5) ∧ tm 6 = .lit (.int .i64 c8_6) ∧ tm 18 = .lit (.bool r34) ∧ True) (by refine ⟨e26, e27, e28, e29, ?_, trivial⟩ <;> first | (simp only [ua, n15, H10, d17, w18, e26, e27, e28, e29, e30, e31, e32, e33, nm, seval] <;> rfl) | rfl) ?_
  rintro tm ⟨e36, e37, e38, e39, e40, _⟩
  cases d41 : (r34)
  ·simp only [d41, hs] at h
   cases d42 : (decide ((c8_6 + 1) < (List.length x1_plan : Int)))
   ·simp only [d42, hs] at h
    have b43 := And.intro g9 (And.intro n15 (And.intro H10 (And.intro d17 (And.intro w18 (And.intro d41 d42)))))
    simp only [vz, tyf, b43, (ix23 o19), e36, e37, e38, e39, e40, nm, seval]
    exact ⟨List.length p8, Nat.lt_succ_self _, by rw [hI8]; refine ⟨p8, c8_6 + 1, c8_5, rfl, Int.le_trans hi8 (Int.le_add_one (Int.le_refl _)), drop_next hi8 hp8, rfl, (show 4 ≤ nx8 + 18 by omega), ?_, e36, e37, e38, ?_, h⟩ <;> first | (simp only [ua, b43, e36, e37, e38, e39, e40, nm, seval] <;> rfl) | rfl⟩
   simp only [d42, hs] at h
   have b44 := And.intro g9 (And.intro n15 (And.intro H10 (And.intro d17 (And.intro w18 (And.intro d41 d42)))))
   simp only [vz, tyf, b44, (ix23 o19), e36, e37, e38, e39, e40, nm, seval]
   refine cwp_drwQF (fun tm => tm 1 = .sl (cellsL eI x1_plan) (List.length x1_plan) false ∧ tm 2 = .ptr 0 0 ∧ tm 5 = .lit (.int .i64 c8_5) ∧ tm 6 = .lit (.int .i64 c8_6) ∧ True) (by refine ⟨e36, e37, e38, e39, trivial⟩ <;> first | (simp only [ua, b44, e36, e37, e38, e39, e40, nm, seval] <;> rfl) | rfl) ?_
   rintro tm ⟨e45, e46, e47, e48, _⟩
   rcases o50 : (g_ref03_Highs x0_s) with _ | r49
   ·simp only [o50, hs] at h
    exact absurd h kN8
   simp only [o50, hs] at h
   simp only [vz, tyf, b44, (ix23 o19), e45, e46, e47, e48, nm, seval]
   refine dktree (args0 := [.agg (cGCoatSheet x0_s)]) (by first | (simp only [nrm, tynrm] <;> rfl) | rfl) (by simp only [tre, tytre, Bool.and_self]) (g_ref03_Highs_ok _ _ o50) ?_
   refine fin_cut (fun tm => tm 1 = .sl (cellsL eI x1_plan) (List.length x1_plan) false ∧ tm 2 = .ptr 0 0 ∧ tm 6 = .lit (.int .i64 c8_6) ∧ tm 24 = .lit (.int .i64 c8_5) ∧ tm 25 = .sl (cellsL eI x1_plan) (List.length x1_plan) false ∧ tm 26 = .lit (.int .i64 c8_6) ∧ tm 28 = .sl (cellsL eI r49) (List.length r49) false ∧ True) (by refine ⟨e45, e46, e48, ?_, ?_, ?_, ?_, trivial⟩ <;> first | (simp only [ua, b44, e45, e46, e47, e48, nm, seval] <;> rfl) | rfl) ?_
   rintro tm ⟨e51, e52, e53, e54, e55, e56, e57, _⟩
   rcases o59 : (g_ref03_Dries x1_plan c8_6 r49) with _ | r58
   ·simp only [o59, hs] at h
    exact absurd h kN8
   simp only [o59, hs] at h
   simp only [vz, tyf, b44, (ix23 o19), e51, e52, e53, e54, e55, e56, e57, nm, seval]
   refine dktree (args0 := [.sl (cellsL eI x1_plan) (List.length x1_plan) false, .lit (.int .i64 c8_6), .sl (cellsL eI r49) (List.length r49) false]) (by first | (simp only [nrm, tynrm] <;> rfl) | rfl) (by simp only [tre, tytre, Bool.and_self]) (g_ref03_Dries_ok _ _ _ _ o59) ?_
   refine fin_cut (fun tm => tm 1 = .sl (cellsL eI x1_plan) (List.length x1_plan) false ∧ tm 2 = .ptr 0 0 ∧ tm 6 = .lit (.int .i64 c8_6) ∧ tm 24 = .lit (.int .i64 c8_5) ∧ tm 29 = .lit (.int .i64 r58) ∧ True) (by refine ⟨e51, e52, e53, e54, ?_, trivial⟩ <;> first | (simp only [ua, b44, e51, e52, e53, e54, e55, e56, e57, nm, seval] <;> rfl) | rfl) ?_
   rintro tm ⟨e60, e61, e62, e63, e64, _⟩
   rcases o66 : (getI x0_s.Coats c8_6) with _ | x65
   ·simp only [o66, hs] at h
    exact absurd h kN8
   simp only [o66, hs] at h
   simp only [vz, tyf, b44, (ix23 o19), e60, e61, e62, e63, e64, (ix24 o66), nm, seval]
   exact ⟨List.length p8, Nat.lt_succ_self _, by rw [hI8]; refine ⟨p8, c8_6 + 1, (if c8_5 < (IntKind.i64.wrap (r58 - x65.Peel)) then (IntKind.i64.wrap (r58 - x65.Peel)) else c8_5), rfl, Int.le_trans hi8 (Int.le_add_one (Int.le_refl _)), drop_next hi8 hp8, rfl, (show 4 ≤ nx8 + 33 by omega), ?_, e60, e61, ?_, ?_, h⟩ <;> first | (simp only [ua, b44, e60, e61, e62, e63, e64, nm, seval] <;> rfl) | rfl⟩
  simp only [d41, hs] at h
  try simp only [vz, tyf, g9, n15, H10, d17, (ix23 o19), w18, e36, e37, e38, e39, e40, d41, nm, seval]
  refine opd_ret (x := (.lit (.int .i64 (-1)))) (by first | (simp only [Tryz.results76, resV, resL, resV1, tgt_ptr, tgt_tp, uw, cr, tyf, g9, n15, H10, d17, (ix23 o19), w18, d41, nm, seval] <;> rfl) | rfl) ?_
  replace h := kR8 _ h
  try dsimp only at h
  obtain rfl := kF _ h
  refine rr_tree ?_ ?_
  ·simp only [tre, tytre, Bool.and_self]
  ·first | (simp only [outV, uw, showV_ref, cr, tyf, nrm, tynrm, g9, n15, H10, d17, (ix23 o19), w18, e36, e37, e38, e39, e40, d41, nm, seval] <;> rfl) | rfl
end Go.V
end
section
namespace Go.V
open Go Go.Proofs
def g_ref03_Slack_l0 (x0_s : GCoatSheet) : List (List Int) → Int → Int → Option (LOut (Int) (Int))
 | [], c0_5, c0_4 => some (.go c0_4)
 | e0 :: p0, c0_5, c0_4 => Option.bind (g_ref03_lacks x0_s e0) (fun r2 => cond (decide (r2 ≥ 0)) (cond (decide (c0_4 < 0)) (g_ref03_Slack_l0 x0_s p0 (c0_5 + 1) r2) (cond (decide (r2 < c0_4)) (g_ref03_Slack_l0 x0_s p0 (c0_5 + 1) r2) (g_ref03_Slack_l0 x0_s p0 (c0_5 + 1) c0_4))) (g_ref03_Slack_l0 x0_s p0 (c0_5 + 1) c0_4))
def g_ref03_Slack (x0_s : GCoatSheet) : Option (Int) := Option.bind (g_ref03_plansR x0_s ([] : List Int)) (fun r1 => cond (lenOk r1) (lbind (g_ref03_Slack_l0 x0_s r1 0 (-1)) (fun r4 => some r4) (fun c3 => some c3) (fun _ _ => none)) none)
theorem g_ref03_Slack_ok (x0_s : GCoatSheet) (R : Int) (h : g_ref03_Slack x0_s = some R) : VPure Tryz.prog G0 39 [.agg (cGCoatSheet x0_s)] (.tree (.lit (.int .i64 R))) := by
 refine VPure.runR mixed Tryz.call39 Tryz.func39 rfl (by simp [Tryz.ntmps39]; kernel_rfl) ?_
 obtain ⟨KF, h, kF, kN⟩ := fun_intro h
 simp only [g_ref03_Slack] at h
 rcases o6 : (g_ref03_plansR x0_s ([] : List Int)) with _ | r5
 ·simp only [o6, hs] at h
  exact absurd h kN
 simp only [o6, hs] at h
 simp only [vz, tyf, nm, seval]
 refine ktree (args0 := [.agg (cGCoatSheet x0_s), .sl (cellsL eI ([] : List Int)) (List.length ([] : List Int)) false]) (by first | (simp only [nrm, tynrm] <;> rfl) | rfl) (by simp only [tre, tytre, Bool.and_self]) (g_ref03_plansR_ok _ _ _ o6) ?_
 refine fin_cut (fun tm => tm 1 = .ptr 0 0 ∧ tm 8 = .sl (cellsL (eSl eI) r5) (List.length r5) false ∧ True) (by refine ⟨?_, ?_, trivial⟩ <;> first | (simp only [ua, nm, seval] <;> rfl) | rfl) ?_
 rintro tm ⟨e7, e8, _⟩
 cases g10 : (lenOk r5)
 ·simp only [g10, hs] at h
  exact absurd h kN
 simp only [g10, hs] at h
 simp only [vz, tyf, e7, e8, g10, nm, seval]
 obtain ⟨K9, h, kR9, kG9, kB9, kN9⟩ := lbind_intro h kN
 obtain ⟨f9, hf9, h⟩ := call3 h
 obtain ⟨I9, hI9⟩ : ∃ I : Nat → St → Prop, I = (fun m st => ∃ (p9 : List (List Int)) (c9_5 : Int) (c9_4 : Int), m = List.length p9 ∧ 0 ≤ c9_5 ∧ List.drop (Int.toNat c9_5) r5 = p9 ∧ st.df = [] ∧ 7 ≤ st.nx ∧ st.H 0 = some (.cells (some 26) (cGCoatSheet x0_s)) ∧ st.tm 1 = .ptr 0 0 ∧ st.tm 3 = .sl (cellsL (eSl eI) r5) (List.length r5) false ∧ st.tm 4 = .lit (.int .i64 c9_4) ∧ st.tm 5 = .lit (.int .i64 c9_5) ∧ K9 (f9 p9 c9_5 c9_4)) := ⟨_, rfl⟩
 refine loopK mixed (by kernel_rfl) I9 (List.length r5) (by rw [hI9]; refine ⟨r5, 0, (-1), rfl, Int.le_refl _, rfl, rfl, (show 7 ≤ 7 by omega), ?_, e7, ?_, ?_, ?_, h⟩ <;> first | (simp only [ua, e7, e8, nm, seval] <;> rfl) | rfl) ?_
 rintro m ⟨tm, H, nx9, df⟩ hinv
 rw [hI9] at hinv
 obtain ⟨p9, c9_5, c9_4, rfl, hi9, hp9, hdf, hn9, H11, e12, e13, e14, e15, h⟩ := hinv
 simp only at hdf hn9 H11 e12 e13 e14 e15
 have n16 := base_ne0 (m := 7) (b := nx9) (by omega)
 subst hdf hf9
 cases p9 with
 | nil =>
  have d17 : (decide (c9_5 < (List.length r5 : Int))) = false := not_lt_of_drop hi9 hp9
  simp only [g_ref03_Slack_l0, hs, reduceCtorEq] at h
  replace h := kG9 _ h
  try dsimp only at h
  try simp only [hs] at h
  try simp only [vz, tyf, g10, n16, e12, e13, e14, e15, H11, d17, nm, seval]
  refine opd_ret (x := (.lit (.int .i64 c9_4))) (by first | (simp only [Tryz.results39, resV, resL, resV1, tgt_ptr, tgt_tp, uw, cr, tyf, g10, n16, H11, d17, nm, seval] <;> rfl) | rfl) ?_
  obtain rfl := kF _ h
  refine rr_tree ?_ ?_
  ·simp only [tre, tytre, Bool.and_self]
  ·first | (simp only [outV, uw, showV_ref, cr, tyf, nrm, tynrm, g10, n16, e12, e13, e14, e15, H11, d17, nm, seval] <;> rfl) | rfl
 | cons e9 p9 =>
  have d18 : (decide (c9_5 < (List.length r5 : Int))) = true := lt_of_drop hi9 hp9
  have o20 := getI_of_drop hi9 hp9
  have w19 := wrap_next hi9 hp9 g10
  simp only [g_ref03_Slack_l0, hs, reduceCtorEq] at h
  simp only [vz, tyf, g10, n16, e12, e13, e14, e15, H11, d18, (ix34 o20), w19, nm, seval]
  refine cwp_drwQF (fun tm => tm 1 = .ptr 0 0 ∧ tm 3 = .sl (cellsL (eSl eI) r5) (List.length r5) false ∧ tm 4 = .lit (.int .i64 c9_4) ∧ tm 5 = .lit (.int .i64 c9_5) ∧ True) (by refine ⟨e12, e13, e14, e15, trivial⟩ <;> first | (simp only [ua, n16, e12, e13, e14, e15, H11, d18, w19, nm, seval] <;> rfl) | rfl) ?_
  rintro tm ⟨e21, e22, e23, e24, _⟩
  rcases o26 : (g_ref03_lacks x0_s e9) with _ | r25
  ·simp only [o26, hs] at h
   exact absurd h kN9
  simp only [o26, hs] at h
  simp only [vz, tyf, g10, n16, H11, d18, (ix34 o20), w19, e21, e22, e23, e24, nm, seval]
  refine dktree (args0 := [.agg (cGCoatSheet x0_s), .sl (cellsL eI e9) (List.length e9) false]) (by first | (simp only [nrm, tynrm] <;> rfl) | rfl) (by simp only [tre, tytre, Bool.and_self]) (g_ref03_lacks_ok _ _ _ o26) ?_
  refine fin_cut (fun tm => tm 1 = .ptr 0 0 ∧ tm 3 = .sl (cellsL (eSl eI) r5) (List.length r5) false ∧ tm 4 = .lit (.int .i64 c9_4) ∧ tm 5 = .lit (.int .i64 c9_5) ∧ tm 20 = .lit (.int .i64 r25) ∧ True) (by refine ⟨e21, e22, e23, e24, ?_, trivial⟩ <;> first | (simp only [ua, n16, H11, d18, w19, e21, e22, e23, e24, nm, seval] <;> rfl) | rfl) ?_
  rintro tm ⟨e27, e28, e29, e30, e31, _⟩
  cases d32 : (decide (r25 ≥ 0))
  ·simp only [d32, hs] at h
   simp only [vz, tyf, g10, n16, H11, d18, (ix34 o20), w19, e27, e28, e29, e30, e31, d32, nm, seval]
   exact ⟨List.length p9, Nat.lt_succ_self _, by rw [hI9]; refine ⟨p9, c9_5 + 1, c9_4, rfl, Int.le_trans hi9 (Int.le_add_one (Int.le_refl _)), drop_next hi9 hp9, rfl, (show 7 ≤ nx9 + 25 by omega), ?_, e27, e28, e29, ?_, h⟩ <;> first | (simp only [ua, n16, H11, d18, w19, e27, e28, e29, e30, e31, d32, nm, seval] <;> rfl) | rfl⟩
  simp only [d32, hs] at h
  cases d33 : (decide (c9_4 < 0))
  ·simp only [d33, hs] at h
   have b34 := And.intro g10 (And.intro n16 (And.intro H11 (And.intro d18 (And.intro w19 (And.intro d32 d33)))))
   cases d35 : (decide (r25 < c9_4))
   ·simp only [d35, hs] at h
    simp only [vz, tyf, b34, (ix34 o20), e27, e28, e29, e30, e31, d35, nm, seval]
    exact ⟨List.length p9, Nat.lt_succ_self _, by rw [hI9]; refine ⟨p9, c9_5 + 1, c9_4, rfl, Int.le_trans hi9 (Int.le_add_one (Int.le_refl _)), drop_next hi9 hp9, rfl, (show 7 ≤ nx9 + 25 by omega), ?_, e27, e28, e29, ?_, h⟩ <;> first | (simp only [ua, b34, e27, e28, e29, e30, e31, d35, nm, seval] <;> rfl) | rfl⟩
   simp only [d35, hs] at h
   simp only [vz, tyf, b34, (ix34 o20), e27, e28, e29, e30, e31, d35, nm, seval]
   exact ⟨List.length p9, Nat.lt_succ_self _, by rw [hI9]; refine ⟨p9, c9_5 + 1, r25, rfl, Int.le_trans hi9 (Int.le_add_one (Int.le_refl _)), drop_next hi9 hp9, rfl, (show 7 ≤ nx9 + 27 by omega), ?_, e27, e28, ?_, ?_, h⟩ <;> first | (simp only [ua, b34, e27, e28, e29, e30, e31, d35, nm, seval] <;> rfl) | rfl⟩
  simp only [d33, hs] at h
  have b36 := And.intro g10 (And.intro n16 (And.intro H11 (And.intro d18 (And.intro w19 (And.intro d32 d33)))))
  simp only [vz, tyf, b36, (ix34 o20), e27, e28, e29, e30, e31, nm, seval]
  exact ⟨List.length p9, Nat.lt_succ_self _, by rw [hI9]; refine ⟨p9, c9_5 + 1, r25, rfl, Int.le_trans hi9 (Int.le_add_one (Int.le_refl _)), drop_next hi9 hp9, rfl, (show 7 ≤ nx9 + 27 by omega), ?_, e27, e28, ?_, ?_, h⟩ <;> first | (simp only [ua, b36, e27, e28, e29, e30, e31, nm, seval] <;> rfl) | rfl⟩
end Go.V
end
