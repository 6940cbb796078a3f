/- Part of a proof: a logic of values by content, lifted functions, what follows. -/
import Derived.Test.YtgdgkkloccpbnaaGreatDoorTbf
import Derived.Test.YtgdgkkloccpbnaaGreatDoorTbk
import Derived.Test.YtgdgkkloccpbnaaGreatDoorTbh
import Derived.Test.YtgdgkkloccpbnaaGreatDoorTbm
import Derived.Test.YtgdgkkloccpbnaaGreatDoorTbj
import Derived.Test.YtgdgkkloccpbnaaGreatDoorTbi
set_option linter.all false
set_option maxRecDepth 4000
set_option maxHeartbeats 40000000
section
namespace Go.V
open Go Go.Proofs
set_option linter.unusedSimpArgs false
set_option linter.unusedVariables false
set_option maxRecDepth 4000
set_option maxHeartbeats 4000000
def bestO (better : List Int → List Int → Option Bool) : List (List Int) → List Int × Bool → Option (List Int × Bool)
 | [], acc => some acc
 | x :: L, acc => cond acc.2 (Option.bind (better x acc.1) fun t => bestO better L (cond t (x, true) acc)) (bestO better L (x, true))
theorem bestOf_ok {itv : VV} {bf : Nat} {mc : List VV} {L : List (List Int)} (hit : Iter Tryz.prog G0 itv (L.map sI)) (hmt : treeL mc = true) {better : List Int → List Int → Option Bool}
  (hb : ∀ a b t, better a b = some t → VPure Tryz.prog G0 bf (sI a :: sI b :: mc) (.tree (.lit (.bool t)))) (R : List Int × Bool) (h : bestO better L ([], false) = some R) :
  VPure Tryz.prog G0 68 [itv, .fn (.func bf) [] mc] (.tree (.tup [sI R.1, .lit (.bool R.2)])) := by
 refine VPure.runR mixed Tryz.call68 Tryz.func68 rfl (by simp [Tryz.ntmps68]; kernel_rfl) ?_
 simp only [vz, tyf, seval, ua, rg]
 refine cwp_cutF (fun tm => tm 9 = itv ∧ tm 3 = .ptr 0 0 ∧ tm 6 = .ptr 3 0 ∧ tm 7 = .ptr 4 0) (by refine ⟨?_, ?_, ?_, ?_⟩ <;> simp only [ua, seval]) ?_
 rintro tm ⟨e9, e3, e6, e7⟩
 refine range_iter hit (by first | (simp only [ev_tmp, ev_func, e9, upd_apply, seval] <;> rfl) | rfl) ?_
 intro LO hLO
 obtain ⟨J, hJ⟩ : ∃ J : Option (List VV) → List (Nat × VObj) → Prop, J = (fun o hp => match o with
  | some l => ∃ (p : List (List Int)) (r : List Int) (fd : Bool) (y : VV), l = p.map sI ∧ hp = [(7, .deferred (some [])), (8, LO), (0, .cells (some 36) [.fn (.func bf) [] mc]), (3, .cells (some 23) [y]), (4, .cells (some 4) [.lit (.bool fd)])] ∧ ((fd = true ∧ y = sI r) ∨ (fd = false ∧ y = .lit (.slice none 0 0) ∧ r = [])) ∧ bestO better p (r, fd) = some R
  | none => False) := ⟨_, rfl⟩
 refine ⟨ownI J, ownI_stable, ?_, ?_, ?_⟩
 ·rintro v rest Fr H nx hFr ⟨hp, hown, hj⟩
  rw [hJ] at hj
  obtain ⟨p, r, fd, y, hl, rfl, hy, hR⟩ := hj
  cases p with
  | nil => cases hl
  | cons e p =>
  simp only [List.map_cons, List.cons.injEq] at hl
  obtain ⟨rfl, rfl⟩ := hl
  obtain ⟨l7, n7, H7⟩ := hown.head
  obtain ⟨l8, n8, H8⟩ := hown.tail.head
  obtain ⟨l0, n0, H0⟩ := hown.tail.tail.head
  obtain ⟨l3, n3, H3⟩ := hown.tail.tail.tail.head
  obtain ⟨l4, n4, H4⟩ := hown.tail.tail.tail.tail.head
  refine yields_open mixed (psl := [10]) hLO H8 tmL_length rfl (by kernel_rfl) (by kernel_rfl) ?_
  intro LB LD hLB hLD
  refine cwp_tmcut (fun tm => tm 10 = sI e ∧ tm 3 = .ptr 0 0 ∧ tm 6 = .ptr 3 0 ∧ tm 7 = .ptr 4 0) (by refine ⟨?_, ?_, ?_, ?_⟩ <;> simp only [round_tm, round_tm0, Tryz.ntmps68, e3, e6, e7, seval]) ?_
  clear e9 e3 e6 e7
  rintro tm ⟨e10, e3, e6, e7⟩
  unfold bestO at hR
  rcases hy with ⟨rfl, rfl⟩ | ⟨rfl, rfl, rfl⟩
  ·simp only [cond_true] at hR
   rcases hbt : better e r with _ | t
   ·rw [hbt] at hR; cases hR
   rw [hbt, Option.bind_some] at hR
   simp only [vz, tyf, seval, ua, nm, rg, RStart, e10, e3, e6, e7, H8, H0, H3, H4, Bool.not_true]
   refine ktreeR ?_ (hb e r t hbt) ?_
   ·have h1 : treeL (cellsL eI e) = true := eI_ok.treeL e
    have h2 : treeL (cellsL eI r) = true := eI_ok.treeL r
    simp [treeL, VV.tree, h1, h2, hmt]
   cases t with
   | true =>
    simp only [vz, tyf, seval, ua, nm, rg, RStart, e10, e3, e6, e7, H8, H0, H3, H4]
    refine ⟨by simp only [updH_apply, seval], (show nx ≤ nx + 12 by omega), fun γ hγ => ?_, ?_⟩
    ·have g8 : γ ≠ 8 := fun e => n8 (e ▸ hγ)
     have g3 : γ ≠ 3 := fun e => n3 (e ▸ hγ)
     have g4 : γ ≠ 4 := fun e => n4 (e ▸ hγ)
     simp only [updH]
     repeat rw [if_neg (by first | assumption | omega)]
    ·simp only [if_true]
     refine ⟨[(7, .deferred (some [])), (8, LO), (0, .cells (some 36) [.fn (.func bf) [] mc]), (3, .cells (some 23) [sI e]), (4, .cells (some 4) [.lit (.bool true)])], Own.cons (show 7 < nx + 12 by omega) n7 ?_ (Own.cons (show 8 < nx + 12 by omega) n8 ?_ (Own.cons (show 0 < nx + 12 by omega) n0 ?_ (Own.cons (show 3 < nx + 12 by omega) n3 ?_ (Own.cons (show 4 < nx + 12 by omega) n4 ?_ (Own.nil))))), ?_⟩
     rotate_left 5
     ·rw [hJ]
      exact ⟨p, e, true, sI e, rfl, rfl, .inl ⟨rfl, rfl⟩, hR⟩
     all_goals simp only [updH_apply, seval, H7, H0, H3, H4]
   | false =>
    simp only [vz, tyf, seval, ua, nm, rg, RStart, e10, e3, e6, e7, H8, H0, H3, H4]
    refine ⟨by simp only [updH_apply, seval], (show nx ≤ nx + 9 by omega), fun γ hγ => ?_, ?_⟩
    ·have g8 : γ ≠ 8 := fun e => n8 (e ▸ hγ)
     have g3 : γ ≠ 3 := fun e => n3 (e ▸ hγ)
     have g4 : γ ≠ 4 := fun e => n4 (e ▸ hγ)
     simp only [updH]
     repeat rw [if_neg (by first | assumption | omega)]
    ·simp only [if_true]
     refine ⟨[(7, .deferred (some [])), (8, LO), (0, .cells (some 36) [.fn (.func bf) [] mc]), (3, .cells (some 23) [sI r]), (4, .cells (some 4) [.lit (.bool true)])], Own.cons (show 7 < nx + 9 by omega) n7 ?_ (Own.cons (show 8 < nx + 9 by omega) n8 ?_ (Own.cons (show 0 < nx + 9 by omega) n0 ?_ (Own.cons (show 3 < nx + 9 by omega) n3 ?_ (Own.cons (show 4 < nx + 9 by omega) n4 ?_ (Own.nil))))), ?_⟩
     rotate_left 5
     ·rw [hJ]
      exact ⟨p, r, true, sI r, rfl, rfl, .inl ⟨rfl, rfl⟩, hR⟩
     all_goals simp only [updH_apply, seval, H7, H0, H3, H4]
  ·simp only [cond_false] at hR
   simp only [vz, tyf, seval, ua, nm, rg, RStart, e10, e3, e6, e7, H8, H0, H3, H4, Bool.not_false]
   refine ⟨by simp only [updH_apply, seval], (show nx ≤ nx + 12 by omega), fun γ hγ => ?_, ?_⟩
   ·have g8 : γ ≠ 8 := fun e => n8 (e ▸ hγ)
    have g3 : γ ≠ 3 := fun e => n3 (e ▸ hγ)
    have g4 : γ ≠ 4 := fun e => n4 (e ▸ hγ)
    simp only [updH]
    repeat rw [if_neg (by first | assumption | omega)]
   ·simp only [if_true]
    refine ⟨[(7, .deferred (some [])), (8, LO), (0, .cells (some 36) [.fn (.func bf) [] mc]), (3, .cells (some 23) [sI e]), (4, .cells (some 4) [.lit (.bool true)])], Own.cons (show 7 < nx + 12 by omega) n7 ?_ (Own.cons (show 8 < nx + 12 by omega) n8 ?_ (Own.cons (show 0 < nx + 12 by omega) n0 ?_ (Own.cons (show 3 < nx + 12 by omega) n3 ?_ (Own.cons (show 4 < nx + 12 by omega) n4 ?_ (Own.nil))))), ?_⟩
    rotate_left 5
    ·rw [hJ]
     exact ⟨p, e, true, sI e, rfl, rfl, .inl ⟨rfl, rfl⟩, hR⟩
    all_goals simp only [updH_apply, seval, H7, H0, H3, H4]
 ·refine ⟨[(7, .deferred (some [])), (8, LO), (0, .cells (some 36) [.fn (.func bf) [] mc]), (3, .cells (some 23) [.lit (.slice none 0 0)]), (4, .cells (some 4) [.lit (.bool false)])], Own.cons (show 7 < 9 by omega) (fun h => h) ?_ (Own.cons (show 8 < 9 by omega) (fun h => h) ?_ (Own.cons (show 0 < 9 by omega) (fun h => h) ?_ (Own.cons (show 3 < 9 by omega) (fun h => h) ?_ (Own.cons (show 4 < 9 by omega) (fun h => h) ?_ (Own.nil))))), ?_⟩
  rotate_left 5
  ·rw [hJ]
   exact ⟨L, [], false, .lit (.slice none 0 0), rfl, rfl, .inr ⟨rfl, rfl, rfl⟩, h⟩
  all_goals simp only [updH_apply, seval]
 ·rintro H' nx' (⟨hp, hown, hj⟩ | ⟨hp, hown, hj⟩)
  ·rw [hJ] at hj
   obtain ⟨p, r, fd, y, hl, rfl, hy, hR⟩ := hj
   cases p with
   | cons e p => cases hl
   | nil =>
   simp only [bestO, Option.some.injEq] at hR
   subst hR
   obtain ⟨l7, n7, H7⟩ := hown.head
   obtain ⟨l8, n8, H8⟩ := hown.tail.head
   obtain ⟨l0, n0, H0⟩ := hown.tail.tail.head
   obtain ⟨l3, n3, H3⟩ := hown.tail.tail.tail.head
   obtain ⟨l4, n4, H4⟩ := hown.tail.tail.tail.tail.head
   refine rangeEnd_go hLO H8 ?_
   intro LX
   simp only [vz, tyf, seval, ua, nm, rg, e6, e7, H3, H4]
   refine cwp_drwQF (fun tm => tm 6 = .ptr 3 0 ∧ tm 7 = .ptr 4 0) ⟨e6, e7⟩ ?_
   clear e9 e3 e6 e7
   rintro tm ⟨e6, e7⟩
   simp only [vz, tyf, seval, ua, nm, rg, e6, e7, H3, H4]
   refine opd_coll (by simp only [updH_apply, seval, H7]) ?_
   refine opd_ret (x := .tup [y, .lit (.bool fd)]) (by simp only [Tryz.results68, resV, resL, resV1, tgt_ptr, tgt_tp, uw, cr, tyf, nm, seval] <;> rfl) ?_
   have hs := eI_ok.treeL r
   rcases hy with ⟨rfl, rfl⟩ | ⟨rfl, rfl, rfl⟩
   ·refine rr_tree (by simp only [tre, tytre, hs, Bool.and_self]) ?_
    simp only [outV, nrm, seval, List.map_cons, List.map_nil]
   ·refine rr_tree (by simp only [tre, tytre, Bool.and_self]) ?_
    simp only [outV, nrm, seval, List.map_cons, List.map_nil, cellsL_nil, List.length_nil]
    rfl
  ·rw [hJ] at hj
   exact hj.elim
end Go.V
end
section
namespace Go.V
open Go Go.Proofs
end Go.V
end
section
namespace Go.V
open Go Go.Proofs
end Go.V
end
section
namespace Go.V
open Go Go.Proofs
end Go.V
end
section
namespace Go.V
open Go Go.Proofs
end Go.V
end
section
namespace Go.V
open Go Go.Proofs
end Go.V
end
section
namespace Go.V
open Go Go.Proofs
end Go.V
end
section
namespace Go.V
open Go
set_option linter.unusedVariables false
set_option linter.unusedSimpArgs false
theorem bestO_spec {better : List Int → List Int → Option Bool} {f : List Int → Int} : ∀ (M : List (List Int)) (r : List Int), (∀ a ∈ M, ∀ c, c ∈ r :: M → better a c = some (decide (f a < f c))) → (∀ x ∈ M, lexL r x) → M.Pairwise lexL →
  ∃ q, bestO better M (r, true) = some (q, true) ∧ q ∈ r :: M ∧ ∀ x ∈ r :: M, f q ≤ f x ∧ (f x = f q → x = q ∨ lexL q x)
 | [], r, _, _, _ => ⟨r, rfl, by simp, fun x hx => by rw [List.mem_singleton.1 hx]; exact ⟨Int.le_refl _, fun _ => .inl rfl⟩⟩
 | y :: M, r, hb, hr, hp => by
  have hp' := List.pairwise_cons.1 hp
  have e : bestO better (y :: M) (r, true) = bestO better M (cond (decide (f y < f r)) (y, true) (r, true)) := by
   show Option.bind (better y r) _ = _
   rw [hb y (by simp) r (by simp)]
   rfl
  rw [e]
  by_cases hlt : f y < f r
  ·rw [decide_eq_true hlt, cond_true]
   obtain ⟨q, h1, h2, h3⟩ := bestO_spec M y (fun a ha c hc => hb a (List.mem_cons_of_mem _ ha) c (List.mem_cons_of_mem _ hc)) hp'.1 hp'.2
   refine ⟨q, h1, List.mem_cons_of_mem _ h2, fun x hx => ?_⟩
   rcases List.mem_cons.1 hx with rfl | hx
   ·have := (h3 y (by simp)).1
    exact ⟨by omega, fun hh => by omega⟩
   ·exact h3 x hx
  ·rw [decide_eq_false hlt, cond_false]
   obtain ⟨q, h1, h2, h3⟩ := bestO_spec M r (fun a ha c hc => hb a (List.mem_cons_of_mem _ ha) c (by
    rcases List.mem_cons.1 hc with rfl | hc
    ·simp
    ·exact List.mem_cons_of_mem _ (List.mem_cons_of_mem _ hc))) (fun x hx => hr x (List.mem_cons_of_mem _ hx)) hp'.2
   refine ⟨q, h1, ?_, fun x hx => ?_⟩
   ·rcases List.mem_cons.1 h2 with rfl | h2
    ·simp
    ·exact List.mem_cons_of_mem _ (List.mem_cons_of_mem _ h2)
   ·have hr0 := h3 r (by simp)
    rcases List.mem_cons.1 hx with rfl | hx
    ·exact hr0
    ·rcases List.mem_cons.1 hx with rfl | hx
     ·refine ⟨by omega, fun hh => .inr ?_⟩
      have hrx := hr x (by simp)
      rcases hr0.2 (by omega) with rfl | hq
      ·exact hrx
      ·exact lexL_trans hq hrx
     ·exact h3 x (List.mem_cons_of_mem _ hx)
theorem bestO_some {better : List Int → List Int → Option Bool} {f : List Int → Int} {y : List Int} {M : List (List Int)} (hb : ∀ a, a ∈ y :: M → ∀ c, c ∈ y :: M → better a c = some (decide (f a < f c))) (hp : (y :: M).Pairwise lexL) :
  ∃ q, bestO better (y :: M) ([], false) = some (q, true) ∧ q ∈ y :: M ∧ ∀ x ∈ y :: M, f q ≤ f x ∧ (f x = f q → x = q ∨ lexL q x) := by
 have hp' := List.pairwise_cons.1 hp
 exact bestO_spec M y (fun a ha c hc => hb a (List.mem_cons_of_mem _ ha) c hc) hp'.1 hp'.2
end Go.V
end
section
namespace Go.V
open Go
set_option linter.unusedVariables false
theorem setAF {α : Type} {enc : α → List VV} {w : Nat} {xs : List α} {x : α} {i : Int} (o m : Nat) (he : ∀ x, (enc x).length = w) (hm : o + m ≤ w) (h : getI xs i = some x) : (i.toNat * w + o + m ≤ (cellsL enc xs).length) = True := by
 have h1 := of_eq_true (setA (w := w) (enc := enc) he h)
 exact eq_true (by omega)
theorem overwrite_mid (A X B : List VV) (o : Nat) (cs : List VV) (h : o + cs.length ≤ X.length) : overwrite (A ++ (X ++ B)) (A.length + o) cs = A ++ (overwrite X o cs ++ B) := by
 unfold overwrite
 rw [List.take_append, List.take_of_length_le (Nat.le_add_right _ _), show A.length + o - A.length = o by omega, List.take_append_of_le_length (by omega),
  List.drop_append, List.drop_of_length_le (by omega), List.nil_append, show A.length + o + cs.length - A.length = o + cs.length by omega, List.drop_append_of_le_length h]
 simp only [List.append_assoc]
theorem setBF {α : Type} {enc : α → List VV} {w : Nat} {xs : List α} {x : α} {i : Int} (o : Nat) (cs : List VV) (v : α) (he : ∀ x, (enc x).length = w) (hc : o + cs.length ≤ w) (h : getI xs i = some x) (hv : enc v = overwrite (enc x) o cs) : overwrite (cellsL enc xs) (i.toNat * w + o) cs = cellsL enc (xs.set i.toNat v) := by
 obtain ⟨h0, h1, h2⟩ := getI_drop h
 have hn : i.toNat < xs.length := by omega
 have e1 : xs = xs.take i.toNat ++ (x :: xs.drop (i.toNat + 1)) := by
  rw [← h2, List.take_append_drop]
 have e2 : xs.set i.toNat v = xs.take i.toNat ++ (v :: xs.drop (i.toNat + 1)) := by
  rw [List.set_eq_take_append_cons_drop, if_pos hn]
 have hl : (xs.take i.toNat).length = i.toNat := by rw [List.length_take]; omega
 have e3 : cellsL enc xs = cellsL enc (xs.take i.toNat) ++ (enc x ++ cellsL enc (xs.drop (i.toNat + 1))) := by
  conv => lhs; rw [e1, cellsL_append]
  rfl
 have e4 : (cellsL enc (xs.take i.toNat)).length = i.toNat * w := by rw [cellsL_length he, hl]
 rw [e3, ← e4, overwrite_mid _ _ _ _ _ (by rw [he]; exact hc), ← hv, e2, cellsL_append]
 rfl
end Go.V
end
section
namespace Go.V
open Go Go.Proofs
def g_slices_Clone_CoatCoat (xs : List GCoatCoat) : Option (List GCoatCoat) := cond (neB xs) (cond (roomOk 16 xs.length) (some xs) none) none
theorem g_slices_Clone_CoatCoat_ok (xs R : List GCoatCoat) (h : g_slices_Clone_CoatCoat xs = some R) : VPure Tryz.prog G0 111 [.sl (cellsL cGCoatCoat xs) xs.length false] (.own (cellsL cGCoatCoat R) R.length 2) := by
 unfold g_slices_Clone_CoatCoat at h
 cases hn : neB xs with
 | false => rw [hn] at h; cases h
 | true =>
 cases hr : roomOk 16 xs.length with
 | false => rw [hn, hr] at h; cases h
 | true =>
 rw [hn, hr] at h
 simp only [cond_true, Option.some.injEq] at h
 subst h
 have hc : cellsL cGCoatCoat xs ≠ [] := by
  cases xs with
  | nil => cases hn
  | cons a l => intro hh; cases hh
 have hnil : ∀ (H : Nat → Option VObj) (x y : Operand), binV Tryz.prog H .eql 24 x y (.sl (cellsL cGCoatCoat xs) xs.length false) (.lit (.slice none 0 0)) = some (.lit (.bool false)) := fun H x y => binV_slNil Tryz.underlying24 hc
 have hb : vbuildSlice Tryz.prog 24 0 [] = some ([], 2) := by kernel_rfl
 refine VPure.run mixed Tryz.call111 Tryz.func111 rfl (by simp [Tryz.ntmps111]; kernel_rfl) ?_
 simp only [vz, tyf, hnil, hb, List.map_nil, seval]
 refine k_appS (w := 2) (enc := cGCoatCoat) (xs := ([] : List GCoatCoat)) (ys := xs) (el := some 59) (fun _ => rfl) lf24 ao24 Tryz.underlying24 rfl hn (by rw [List.nil_append]; exact hr) ?_
 simp only [vz, tyf, List.nil_append, seval]
 refine ⟨rfl, .ref 5 0 xs.length 2 xs.length, by simp [Tryz.results111, resV, resL, resV1, upd], (cellsL cGCoatCoat xs).length + 1, 5, _, cellsL cGCoatCoat xs, ⟨_, rfl⟩, by simp only [updH_apply, without_apply, seval] <;> rfl, seal_tree _ _ (cGCoatCoat_ok.treeL xs) (Nat.lt_succ_self _)⟩
end Go.V
end
section
namespace Go.V
open Go Go.Proofs
def g_coat_neverPeeling_l0  : List GCoatCoat → Int → (List GCoatCoat) → Option (LOut (GCoatSheet) ((List GCoatCoat)))
 | [], c0_11, c0_o0 => some (.go c0_o0)
 | e0 :: p0, c0_11, c0_o0 => Option.bind (getI c0_o0 c0_11) (fun x2 => g_coat_neverPeeling_l0 p0 (c0_11 + 1) (List.set c0_o0 (Int.toNat c0_11) (GCoatCoat.mk x2.Need 288)))
def g_coat_neverPeeling (x0_s : GCoatSheet) : Option (GCoatSheet) := Option.bind (g_slices_Clone_CoatCoat x0_s.Coats) (fun r1 => cond (lenOk r1) (lbind (g_coat_neverPeeling_l0 r1 0 r1) (fun r4 => some r4) (fun c3 => some (GCoatSheet.mk x0_s.Dry x0_s.Work c3)) (fun _ _ => none)) none)
theorem g_coat_neverPeeling_ok (x0_s : GCoatSheet) (R : GCoatSheet) (h : g_coat_neverPeeling x0_s = some R) : VPure Tryz.prog G0 73 [.agg (cGCoatSheet x0_s)] (.tree (.agg (cGCoatSheet R))) := by
 refine VPure.runR mixed Tryz.call73 Tryz.func73 rfl (by simp [Tryz.ntmps73]; kernel_rfl) ?_
 obtain ⟨KF, h, kF, kN⟩ := fun_intro h
 simp only [g_coat_neverPeeling] at h
 rcases o6 : (g_slices_Clone_CoatCoat x0_s.Coats) with _ | r5
 ·simp only [o6, hs] at h
  exact absurd h kN
 simp only [o6, hs] at h
 simp only [vz, tyf, nm, seval]
 refine kown (args0 := [.sl (cellsL cGCoatCoat x0_s.Coats) (List.length x0_s.Coats) false]) (by first | (simp only [nrm, tynrm] <;> rfl) | rfl) (by simp only [tre, tytre, Bool.and_self]) (g_slices_Clone_CoatCoat_ok _ _ o6) ?_
 cases g8 : (lenOk r5)
 ·simp only [g8, hs] at h
  exact absurd h kN
 simp only [g8, hs] at h
 simp only [vz, tyf, g8, nm, seval]
 obtain ⟨K7, h, kR7, kG7, kB7, kN7⟩ := lbind_intro h kN
 obtain ⟨f7, hf7, h⟩ := call3 h
 obtain ⟨I7, hI7⟩ : ∃ I : Nat → St → Prop, I = (fun m st => ∃ (p7 : List GCoatCoat) (c7_11 : Int) (c7_o0 : List GCoatCoat), m = List.length p7 ∧ 0 ≤ c7_11 ∧ List.drop (Int.toNat c7_11) r5 = p7 ∧ st.df = [] ∧ 11 ≤ st.nx ∧ st.H 0 = some (.cells (some 26) ([.sl (cellsL cGSpan x0_s.Dry) (List.length x0_s.Dry) false] ++ [.sl (cellsL eI x0_s.Work) (List.length x0_s.Work) false] ++ [.ref 4 0 (List.length c7_o0) 2 (List.length c7_o0)])) ∧ st.H 1 = some (.cells (some 26) ([.lit (.slice none 0 0)] ++ [.lit (.slice none 0 0)] ++ [.lit (.slice none 0 0)])) ∧ st.H 4 = some (.cells (none) (cellsL cGCoatCoat c7_o0)) ∧ st.tm 1 = .ptr 0 0 ∧ st.tm 2 = .ptr 1 0 ∧ st.tm 10 = .lit (.int .i64 (List.length r5 : Int)) ∧ st.tm 11 = .lit (.int .i64 c7_11) ∧ K7 (f7 p7 c7_11 c7_o0)) := ⟨_, rfl⟩
 refine loopK mixed (by kernel_rfl) I7 (List.length r5) (by rw [hI7]; refine ⟨r5, 0, r5, rfl, Int.le_refl _, rfl, rfl, (show 11 ≤ 11 by omega), ?_, ?_, ?_, ?_, ?_, ?_, ?_, h⟩ <;> first | (simp only [ua, nm, seval] <;> rfl) | rfl) ?_
 rintro m ⟨tm, H, nx7, df⟩ hinv
 rw [hI7] at hinv
 obtain ⟨p7, c7_11, c7_o0, rfl, hi7, hp7, hdf, hn7, H9, H10, H11, e12, e13, e14, e15, h⟩ := hinv
 simp only at hdf hn7 H9 H10 H11 e12 e13 e14 e15
 have n16 := base_ne0 (m := 11) (b := nx7) (by omega)
 subst hdf hf7
 cases p7 with
 | nil =>
  have d17 : (decide (c7_11 < (List.length r5 : Int))) = false := not_lt_of_drop hi7 hp7
  simp only [g_coat_neverPeeling_l0, hs, reduceCtorEq] at h
  replace h := kG7 _ h
  try dsimp only at h
  try simp only [hs] at h
  try simp only [vz, tyf, g8, n16, e12, e13, e14, e15, H9, H10, H11, d17, nm, seval]
  refine opd_ret (x := (.agg ([.sl (cellsL cGSpan x0_s.Dry) (List.length x0_s.Dry) false] ++ [.sl (cellsL eI x0_s.Work) (List.length x0_s.Work) false] ++ [.ref 4 0 (List.length c7_o0) 2 (List.length c7_o0)]))) (by first | (simp only [Tryz.results73, resV, resL, resV1, tgt_ptr, tgt_tp, uw, cr, tyf, g8, n16, e12, e13, e14, e15, H9, H10, H11, d17, nm, seval] <;> rfl) | rfl) ?_
  obtain rfl := kF _ h
  refine rr_tree ?_ ?_
  ·simp only [tre, tytre, Bool.and_self]
  ·first | (simp only [outV, uw, showV_ref, cr, tyf, nrm, tynrm, g8, n16, e12, e13, e14, e15, H9, H10, H11, d17, nm, seval] <;> rfl) | rfl
 | cons e7 p7 =>
  have d18 : (decide (c7_11 < (List.length r5 : Int))) = true := lt_of_drop hi7 hp7
  have o20 := getI_of_drop hi7 hp7
  have w19 := wrap_next hi7 hp7 g8
  simp only [g_coat_neverPeeling_l0, hs, reduceCtorEq] at h
  rcases o22 : (getI c7_o0 c7_11) with _ | x21
  ·simp only [o22, hs] at h
   exact absurd h kN7
  simp only [o22, hs] at h
  have w23 := setAF (w := 2) (enc := cGCoatCoat) 1 1 (fun _ => rfl) (by decide) o22
  have w24 := setBF (w := 2) (enc := cGCoatCoat) 1 [.lit (.int .i64 288)] (GCoatCoat.mk x21.Need 288) (fun _ => rfl) (by simp) o22 rfl
  simp only [vz, tyf, nm, seval] at w24
  have w25 := setC (w := 2) (enc := cGCoatCoat) c7_o0 (Int.toNat c7_11) (GCoatCoat.mk x21.Need 288) (fun _ => rfl)
  simp only [vz, tyf, g8, n16, e12, e13, e14, e15, H9, H10, H11, d18, (ix24 o20), w19, (ixo24 o22), w23, w24, w25, nm, seval]
  exact ⟨List.length p7, Nat.lt_succ_self _, by rw [hI7]; refine ⟨p7, c7_11 + 1, (List.set c7_o0 (Int.toNat c7_11) (GCoatCoat.mk x21.Need 288)), rfl, Int.le_trans hi7 (Int.le_add_one (Int.le_refl _)), drop_next hi7 hp7, rfl, (show 11 ≤ nx7 + 11 by omega), ?_, ?_, ?_, e12, e13, e14, ?_, h⟩ <;> first | (simp only [ua, n16, e12, e13, e14, e15, H9, H10, H11, d18, w19, w23, w24, w25, nm, seval] <;> rfl) | rfl⟩
end Go.V
end
section
namespace Go.V
open Go Go.Proofs
def g_coat_sums_excess_l0 (x0_x : Gcoatsums) (x1_plan : List Int) : Nat → Int → Int → Option (LOut (Int) (Int))
 | 0, c0_10, c0_5 => some (.go c0_5)
 | k0 + 1, c0_10, c0_5 => Option.bind (getI x1_plan c0_10) (fun x1 => Option.bind (getI x1_plan (c0_10 + 1)) (fun x2 => Option.bind (g_coat_sums_greatest x0_x x1 x2) (fun r3 => Option.bind (getI x0_x.CoatSheet.Coats c0_10) (fun x4 => g_coat_sums_excess_l0 x0_x x1_plan k0 (c0_10 + 1) (if c0_5 < (IntKind.i64.wrap (r3 - x4.Peel)) then (IntKind.i64.wrap (r3 - x4.Peel)) else c0_5)))))
def g_coat_sums_excess (x0_x : Gcoatsums) (x1_plan : List Int) : Option (Int) := cond (boundOk (IntKind.i64.wrap ((List.length x1_plan : Int) - 1))) (lbind (g_coat_sums_excess_l0 x0_x x1_plan (Int.toNat ((IntKind.i64.wrap ((List.length x1_plan : Int) - 1)) - 0)) 0 0) (fun r6 => some r6) (fun c5 => some c5) (fun _ _ => none)) none
theorem g_coat_sums_excess_ok (x0_x : Gcoatsums) (x1_plan : List Int) (R : Int) (h : g_coat_sums_excess x0_x x1_plan = some R) : VPure Tryz.prog G0 75 [.agg (cGcoatsums x0_x), .sl (cellsL eI x1_plan) (List.length x1_plan) false] (.tree (.lit (.int .i64 R))) := by
 refine VPure.runR mixed Tryz.call75 Tryz.func75 rfl (by simp [Tryz.ntmps75]; kernel_rfl) ?_
 obtain ⟨KF, h, kF, kN⟩ := fun_intro h
 simp only [g_coat_sums_excess] at h
 cases g8 : (boundOk (IntKind.i64.wrap ((List.length x1_plan : Int) - 1)))
 ·simp only [g8, hs] at h
  exact absurd h kN
 simp only [g8, hs] at h
 simp only [vz, tyf, g8, nm, seval]
 obtain ⟨K7, h, kR7, kG7, kB7, kN7⟩ := lbind_intro h kN
 obtain ⟨f7, hf7, h⟩ := call3 h
 obtain ⟨I7, hI7⟩ : ∃ I : Nat → St → Prop, I = (fun m st => ∃ (p7 : Nat) (c7_10 : Int) (c7_5 : Int), p7 = m ∧ loOk c7_10 = true ∧ Int.toNat ((IntKind.i64.wrap ((List.length x1_plan : Int) - 1)) - c7_10) = p7 ∧ st.df = [] ∧ 7 ≤ st.nx ∧ st.H 0 = some (.cells (some 81) (cGcoatsums x0_x)) ∧ st.tm 1 = .sl (cellsL eI x1_plan) (List.length x1_plan) false ∧ st.tm 2 = .ptr 0 0 ∧ st.tm 9 = .lit (.int .i64 (IntKind.i64.wrap ((List.length x1_plan : Int) - 1))) ∧ st.tm 5 = .lit (.int .i64 c7_5) ∧ st.tm 10 = .lit (.int .i64 c7_10) ∧ K7 (f7 p7 c7_10 c7_5)) := ⟨_, rfl⟩
 refine loopK mixed (by kernel_rfl) I7 (Int.toNat ((IntKind.i64.wrap ((List.length x1_plan : Int) - 1)) - 0)) (by rw [hI7]; refine ⟨Int.toNat ((IntKind.i64.wrap ((List.length x1_plan : Int) - 1)) - 0), 0, 0, rfl, (by rfl), rfl, rfl, (show 7 ≤ 7 by omega), ?_, ?_, ?_, ?_, ?_, ?_, h⟩ <;> first | (simp only [ua, nm, seval] <;> rfl) | rfl) ?_
 rintro m ⟨tm, H, nx7, df⟩ hinv
 rw [hI7] at hinv
 obtain ⟨p7, c7_10, c7_5, rfl, hi7, hp7, hdf, hn7, H9, e10, e11, e12, e13, e14, h⟩ := hinv
 simp only at hdf hn7 H9 e10 e11 e12 e13 e14
 have n15 := base_ne0 (m := 7) (b := nx7) (by omega)
 subst hdf hf7
 cases p7 with
 | zero =>
  have d16 : (decide (c7_10 < (IntKind.i64.wrap ((List.length x1_plan : Int) - 1)))) = false := cnt_not_lt hp7
  simp only [g_coat_sums_excess_l0, hs, reduceCtorEq] at h
  replace h := kG7 _ h
  try dsimp only at h
  try simp only [hs] at h
  try simp only [vz, tyf, g8, n15, e10, e11, e12, e13, e14, H9, d16, nm, seval]
  refine opd_ret (x := (.lit (.int .i64 c7_5))) (by first | (simp only [Tryz.results75, resV, resL, resV1, tgt_ptr, tgt_tp, uw, cr, tyf, g8, n15, H9, d16, nm, seval] <;> rfl) | rfl) ?_
  obtain rfl := kF _ h
  refine rr_tree ?_ ?_
  ·simp only [tre, tytre, Bool.and_self]
  ·first | (simp only [outV, uw, showV_ref, cr, tyf, nrm, tynrm, g8, n15, e10, e11, e12, e13, e14, H9, d16, nm, seval] <;> rfl) | rfl
 | succ p7 =>
  have d17 : (decide (c7_10 < (IntKind.i64.wrap ((List.length x1_plan : Int) - 1)))) = true := cnt_lt hp7
  have w18 := cnt_wrap hi7 hp7 g8
  simp only [g_coat_sums_excess_l0, hs, reduceCtorEq] at h
  simp only [vz, tyf, g8, n15, e10, e11, e12, e13, e14, H9, d17, w18, nm, seval]
  refine cwp_drwQF (fun tm => tm 1 = .sl (cellsL eI x1_plan) (List.length x1_plan) false ∧ tm 2 = .ptr 0 0 ∧ tm 5 = .lit (.int .i64 c7_5) ∧ tm 6 = .lit (.int .i64 c7_10) ∧ tm 9 = .lit (.int .i64 (IntKind.i64.wrap ((List.length x1_plan : Int) - 1))) ∧ tm 10 = .lit (.int .i64 c7_10) ∧ True) (by refine ⟨e10, e11, e13, ?_, e12, e14, trivial⟩ <;> first | (simp only [ua, n15, e10, e11, e12, e13, e14, H9, d17, w18, nm, seval] <;> rfl) | rfl) ?_
  rintro tm ⟨e19, e20, e21, e22, e23, e24, _⟩
  rcases o26 : (getI x1_plan c7_10) with _ | x25
  ·simp only [o26, hs] at h
   exact absurd h kN7
  simp only [o26, hs] at h
  rcases o28 : (getI x1_plan (c7_10 + 1)) with _ | x27
  ·simp only [o28, hs] at h
   exact absurd h kN7
  simp only [o28, hs] at h
  rcases o30 : (g_coat_sums_greatest x0_x x25 x27) with _ | r29
  ·simp only [o30, hs] at h
   exact absurd h kN7
  simp only [o30, hs] at h
  simp only [vz, tyf, g8, n15, H9, d17, w18, e19, e20, e21, e22, e23, e24, (ix23 o26), (ix23 o28), nm, seval]
  refine dktree (args0 := [.agg (cGcoatsums x0_x), .lit (.int .i64 x25), .lit (.int .i64 x27)]) (by first | (simp only [nrm, tynrm] <;> rfl) | rfl) (by simp only [tre, tytre, Bool.and_self]) (g_coat_sums_greatest_ok _ _ _ _ o30) ?_
  refine fin_cut (fun tm => tm 1 = .sl (cellsL eI x1_plan) (List.length x1_plan) false ∧ tm 2 = .ptr 0 0 ∧ tm 6 = .lit (.int .i64 c7_10) ∧ tm 9 = .lit (.int .i64 (IntKind.i64.wrap ((List.length x1_plan : Int) - 1))) ∧ tm 10 = .lit (.int .i64 c7_10) ∧ tm 13 = .lit (.int .i64 c7_5) ∧ tm 24 = .lit (.int .i64 r29) ∧ True) (by refine ⟨e19, e20, e22, e23, e24, ?_, ?_, trivial⟩ <;> first | (simp only [ua, n15, H9, d17, w18, e19, e20, e21, e22, e23, e24, nm, seval] <;> rfl) | rfl) ?_
  rintro tm ⟨e31, e32, e33, e34, e35, e36, e37, _⟩
  rcases o39 : (getI x0_x.CoatSheet.Coats c7_10) with _ | x38
  ·simp only [o39, hs] at h
   exact absurd h kN7
  simp only [o39, hs] at h
  simp only [vz, tyf, g8, n15, H9, d17, w18, (ix23 o26), (ix23 o28), e31, e32, e33, e34, e35, e36, e37, (ix24 o39), nm, seval]
  exact ⟨p7, Nat.lt_succ_self _, by rw [hI7]; refine ⟨p7, c7_10 + 1, (if c7_5 < (IntKind.i64.wrap (r29 - x38.Peel)) then (IntKind.i64.wrap (r29 - x38.Peel)) else c7_5), rfl, cnt_lo hi7, cnt_next hp7, rfl, (show 7 ≤ nx7 + 27 by omega), ?_, e31, e32, e34, ?_, ?_, h⟩ <;> first | (simp only [ua, n15, H9, d17, w18, e31, e32, e33, e34, e35, e36, e37, nm, seval] <;> rfl) | rfl⟩
end Go.V
end
section
namespace Go.V
open Go Go.Proofs
def g_coat_Slack_1 (x0_a : List Int) (x1_b : List Int) (x2_a2 : Gcoatsums) : Option (Bool) := Option.bind (g_coat_sums_excess x2_a2 x0_a) (fun r1 => Option.bind (g_coat_sums_excess x2_a2 x1_b) (fun r2 => some (decide (r1 < r2))))
theorem g_coat_Slack_1_ok (x0_a : List Int) (x1_b : List Int) (x2_a2 : Gcoatsums) (R : Bool) (h : g_coat_Slack_1 x0_a x1_b x2_a2 = some R) : VPure Tryz.prog G0 74 [.sl (cellsL eI x0_a) (List.length x0_a) false, .sl (cellsL eI x1_b) (List.length x1_b) false, .tp (cGcoatsums x2_a2)] (.tree (.lit (.bool R))) := by
 refine VPure.runR mixed Tryz.call74 Tryz.func74 rfl (by simp [Tryz.ntmps74]; kernel_rfl) ?_
 obtain ⟨KF, h, kF, kN⟩ := fun_intro h
 simp only [g_coat_Slack_1] at h
 simp only [vz, tyf, nm, seval]
 refine cwp_drwQF (fun tm => tm 0 = .sl (cellsL eI x0_a) (List.length x0_a) false ∧ tm 1 = .sl (cellsL eI x1_b) (List.length x1_b) false ∧ tm 2 = .tp (cGcoatsums x2_a2) ∧ True) (by refine ⟨?_, ?_, ?_, trivial⟩ <;> first | (simp only [ua, nm, seval] <;> rfl) | rfl) ?_
 rintro tm ⟨e3, e4, e5, _⟩
 rcases o7 : (g_coat_sums_excess x2_a2 x0_a) with _ | r6
 ·simp only [o7, hs] at h
  exact absurd h kN
 simp only [o7, hs] at h
 simp only [vz, tyf, e3, e4, e5, nm, seval]
 refine dktree (args0 := [.agg (cGcoatsums x2_a2), .sl (cellsL eI x0_a) (List.length x0_a) false]) (by first | (simp only [nrm, tynrm] <;> rfl) | rfl) (by simp only [tre, tytre, Bool.and_self]) (g_coat_sums_excess_ok _ _ _ o7) ?_
 refine fin_cut (fun tm => tm 1 = .sl (cellsL eI x1_b) (List.length x1_b) false ∧ tm 2 = .tp (cGcoatsums x2_a2) ∧ tm 8 = .lit (.int .i64 r6) ∧ True) (by refine ⟨e4, e5, ?_, trivial⟩ <;> first | (simp only [ua, e3, e4, e5, nm, seval] <;> rfl) | rfl) ?_
 rintro tm ⟨e8, e9, e10, _⟩
 rcases o12 : (g_coat_sums_excess x2_a2 x1_b) with _ | r11
 ·simp only [o12, hs] at h
  exact absurd h kN
 simp only [o12, hs] at h
 simp only [vz, tyf, e8, e9, e10, nm, seval]
 refine dktree (args0 := [.agg (cGcoatsums x2_a2), .sl (cellsL eI x1_b) (List.length x1_b) false]) (by first | (simp only [nrm, tynrm] <;> rfl) | rfl) (by simp only [tre, tytre, Bool.and_self]) (g_coat_sums_excess_ok _ _ _ o12) ?_
 refine fin_cut (fun tm => tm 8 = .lit (.int .i64 r6) ∧ tm 11 = .lit (.int .i64 r11) ∧ True) (by refine ⟨e10, ?_, trivial⟩ <;> first | (simp only [ua, e8, e9, e10, nm, seval] <;> rfl) | rfl) ?_
 rintro tm ⟨e13, e14, _⟩
 try simp only [vz, tyf, e13, e14, nm, seval]
 obtain rfl := kF _ h
 exact opd_bool Tryz.results74 rfl
end Go.V
end
section
namespace Go.V
open Go Go.Proofs
set_option linter.unusedSimpArgs false
set_option linter.unusedVariables false
set_option maxRecDepth 4000
set_option maxHeartbeats 4000000
theorem ktreeP {P : Program} {G : Glob} {f : FuncId} {args : List VV} {x : VV} {d : Option Tmp} {γ : Nat} {tm : Nat → VV} {H : Nat → Option VObj} {nx : Nat} {df : List VDef} {K : St → Prop} {Qp : VV → St → Prop} (ht : treeL args = true) (hp : VPure P G f args (.tree x)) (h : fin d γ tm H nx df K x .none) : callK P G f args ⟨tm, H, nx, df⟩ d γ K Qp := by
 refine .inl ⟨ht, .tree x, hp, ?_⟩
 rw [← fin_eq (K := K), stepTo_none] at h
 exact h
def g_coat_Slack (s : GCoatSheet) : Option (Int × Int) := Option.bind (g_coat_isSheet s) fun b1 => cond b1
 (Option.bind (g_coat_summed s) fun x => Option.bind (g_coat_neverPeeling s) fun s2 => Option.bind (g_coat_summed s2) fun x2 => Option.bind (it_coat_plans x2) fun L => Option.bind (bestO (fun a b => g_coat_Slack_1 a b x) L ([], false)) fun r => cond r.2 (Option.bind (g_coat_sums_excess x r.1) fun n => some (n, 0)) (some (0, 5)))
 (some (0, 2))
theorem g_coat_Slack_ok (s : GCoatSheet) (R : Int × Int) (h : g_coat_Slack s = some R) : VPure Tryz.prog G0 38 [.agg (cGCoatSheet s)] (.tree (.tup [.lit (.int .i64 R.1), .lit (.int .i64 R.2)])) := by
 refine VPure.runRW Tryz.call38 Tryz.func38 rfl (by simp [Tryz.ntmps38]) ?_
 refine vwp_seq mixed (by kernel_rfl) ?_
 simp only [vz, tyf, seval, nm, ua, rg]
 have ht1 : treeL (cGCoatSheet s) = true := cGCoatSheet_ok.tree s
 unfold g_coat_Slack at h
 rcases o1 : g_coat_isSheet s with _ | b1
 ·rw [o1] at h; cases h
 rw [o1, Option.bind_some] at h
 refine vwp_seq mixed (by kernel_rfl) ?_
 simp only [vz, tyf, seval, nm, ua, rg]
 refine ktree (args0 := [.agg (cGCoatSheet s)]) (by first | (simp only [nrm, tynrm] <;> rfl) | rfl) (by simp only [tre, tytre, Bool.and_self]) (g_coat_isSheet_ok _ _ o1) ?_
 simp only [vz, tyf, seval, nm, ua, rg]
 cases b1 with
 | false =>
  simp only [cond_false, Option.some.injEq] at h
  subst h
  simp only [vz, tyf, seval, nm, ua, rg, Bool.not_false]
  refine opd_ret (x := .tup [.lit (.int .i64 0), .lit (.int .i64 2)]) (by simp only [Tryz.results38, resV, resL, resV1, tgt_ptr, tgt_tp, uw, cr, tyf, nm, seval] <;> rfl) ?_
  refine rr_tree (by simp only [tre, tytre]; rfl) ?_
  simp only [outV, nrm, seval, List.map_cons, List.map_nil, cellsL_nil, List.length_nil]
 | true =>
 rw [cond_true] at h
 simp only [vz, tyf, seval, nm, ua, rg, Bool.not_true]
 rcases o2 : g_coat_summed s with _ | x
 ·rw [o2] at h; cases h
 rw [o2, Option.bind_some] at h
 refine vwp_seq mixed (by kernel_rfl) ?_
 simp only [vz, tyf, seval, nm, ua, rg]
 refine ktree (args0 := [.agg (cGCoatSheet s)]) (by first | (simp only [nrm, tynrm] <;> rfl) | rfl) (by simp only [tre, tytre, Bool.and_self]) (g_coat_summed_ok _ _ o2) ?_
 simp only [vz, tyf, seval, nm, ua, rg]
 have hxt : treeL (cGcoatsums x) = true := cGcoatsums_ok.tree x
 refine VWp.freeze2 (a := 1) (b := 4) (γ := 0) (δ := 8) (e1 := some 26) (e2 := some 81) (c1 := cGCoatSheet s) (c2 := cGcoatsums x) (by simp only [ua, seval]) (by simp only [ua, seval]) (by simp only [ua, seval]; rfl) (by simp only [ua, seval]; rfl) ht1 hxt (by intro y h0 h1; simp [updH, h0, h1]) ?_
 refine vwp_end mixed (by kernel_rfl) ?_
 rcases o3 : g_coat_neverPeeling s with _ | s2
 ·rw [o3] at h; cases h
 rw [o3, Option.bind_some] at h
 rcases o4 : g_coat_summed s2 with _ | x2
 ·rw [o4] at h; cases h
 rw [o4, Option.bind_some] at h
 rcases o5 : it_coat_plans x2 with _ | L
 ·rw [o5] at h; cases h
 rw [o5, Option.bind_some] at h
 rcases o6 : bestO (fun a b => g_coat_Slack_1 a b x) L ([], false) with _ | r
 ·rw [o6] at h; cases h
 rw [o6, Option.bind_some] at h
 obtain ⟨itv, hti, hp, hit⟩ := it_coat_plans_ok x2 L o5
 have hmt : treeL [VV.tp (cGcoatsums x)] = true := by simp [treeL, VV.tree, hxt]
 have hbo := bestOf_ok (bf := 74) (mc := [.tp (cGcoatsums x)]) hit hmt (better := fun a b => g_coat_Slack_1 a b x) (fun a b t ht => g_coat_Slack_1_ok a b x t ht) r o6
 simp only [vz, tyf, seval, nm, ua, rg]
 refine ktree (args0 := [.agg (cGCoatSheet s)]) (by first | (simp only [nrm, tynrm] <;> rfl) | rfl) (by simp only [tre, tytre, Bool.and_self]) (g_coat_neverPeeling_ok _ _ o3) ?_
 simp only [vz, tyf, seval, nm, ua, rg]
 refine ktree (args0 := [.agg (cGCoatSheet s2)]) (by first | (simp only [nrm, tynrm] <;> rfl) | rfl) (by simp only [tre, tytre, Bool.and_self]) (g_coat_summed_ok _ _ o4) ?_
 simp only [vz, tyf, seval, nm, ua, rg]
 refine ktree (args0 := [.agg (cGcoatsums x2)]) (by first | (simp only [nrm, tynrm] <;> rfl) | rfl) (by simp only [tre, tytre, Bool.and_self]) hp ?_
 simp only [vz, tyf, seval, nm, ua, rg]
 refine ktreeP (by simp [treeL, VV.tree, hti, hxt]; exact ⟨cGSpan_ok.treeL _, eI_ok.treeL _, cGCoatCoat_ok.treeL _, eI_ok.treeL _, eI_ok.treeL _⟩) hbo ?_
 simp only [vz, tyf, seval, nm, ua, rg]
 obtain ⟨r1, r2⟩ := r
 cases r2 with
 | false =>
  simp only [cond_false, Option.some.injEq] at h
  subst h
  simp only [vz, tyf, seval, nm, ua, rg, Bool.not_false]
  refine opd_ret (x := .tup [.lit (.int .i64 0), .lit (.int .i64 5)]) (by simp only [Tryz.results38, resV, resL, resV1, uw, nm, seval] <;> rfl) ?_
  refine rr_tree (by simp only [tre, tytre, Bool.and_self]) ?_
  simp only [outV, nrm, seval, List.map_cons, List.map_nil, cellsL_nil, List.length_nil]
 | true =>
  simp only [cond_true] at h
  rcases o7 : g_coat_sums_excess x r1 with _ | n
  ·rw [o7] at h; cases h
  rw [o7, Option.bind_some, Option.some.injEq] at h
  subst h
  simp only [vz, tyf, seval, nm, ua, rg, Bool.not_true]
  refine ktree (args0 := [.agg (cGcoatsums x), sI r1]) (by first | (simp only [nrm, tynrm] <;> rfl) | rfl) (by simp only [tre, tytre, Bool.and_self]) (g_coat_sums_excess_ok _ _ _ o7) ?_
  simp only [vz, tyf, seval, nm, ua, rg]
  refine opd_ret (x := .tup [.lit (.int .i64 n), .lit (.int .i64 0)]) (by simp only [Tryz.results38, resV, resL, resV1, uw, nm, seval] <;> rfl) ?_
  refine rr_tree (by simp only [tre, tytre, Bool.and_self]) ?_
  simp only [outV, nrm, seval, List.map_cons, List.map_nil]
end Go.V
end
section
namespace Go.V
open Go Go.Proofs
def g_ref03_Wider_l0 (x1_by : Int) : List GCoatCoat → Int → (List GCoatCoat) → Option (LOut (GCoatSheet) ((List GCoatCoat)))
 | [], c0_6, c0_o0 => some (.go c0_o0)
 | e0 :: p0, c0_6, c0_o0 => cond (roomOk 16 (List.length (c0_o0 ++ [(GCoatCoat.mk e0.Need (IntKind.i64.wrap (e0.Peel + x1_by)))]))) (g_ref03_Wider_l0 x1_by p0 (c0_6 + 1) (c0_o0 ++ [(GCoatCoat.mk e0.Need (IntKind.i64.wrap (e0.Peel + x1_by)))])) none
def g_ref03_Wider (x0_s : GCoatSheet) (x1_by : Int) : Option (GCoatSheet) := cond (lenOk x0_s.Coats) (lbind (g_ref03_Wider_l0 x1_by x0_s.Coats 0 ([] : List GCoatCoat)) (fun r2 => some r2) (fun c1 => some (GCoatSheet.mk x0_s.Dry x0_s.Work c1)) (fun _ _ => none)) none
theorem g_ref03_Wider_ok (x0_s : GCoatSheet) (x1_by : Int) (R : GCoatSheet) (h : g_ref03_Wider x0_s x1_by = some R) : VPure Tryz.prog G0 40 [.agg (cGCoatSheet x0_s), .lit (.int .i64 x1_by)] (.tree (.agg (cGCoatSheet R))) := by
 refine VPure.runR mixed Tryz.call40 Tryz.func40 rfl (by simp [Tryz.ntmps40]; kernel_rfl) ?_
 obtain ⟨KF, h, kF, kN⟩ := fun_intro h
 simp only [g_ref03_Wider] at h
 cases g4 : (lenOk x0_s.Coats)
 ·simp only [g4, hs] at h
  exact absurd h kN
 simp only [g4, hs] at h
 simp only [vz, tyf, g4, nm, seval]
 obtain ⟨K3, h, kR3, kG3, kB3, kN3⟩ := lbind_intro h kN
 obtain ⟨f3, hf3, h⟩ := call3 h
 obtain ⟨I3, hI3⟩ : ∃ I : Nat → St → Prop, I = (fun m st => ∃ (p3 : List GCoatCoat) (c3_6 : Int) (c3_o0 : List GCoatCoat) (y3_0 : VV), m = List.length p3 ∧ 0 ≤ c3_6 ∧ List.drop (Int.toNat c3_6) x0_s.Coats = p3 ∧ st.df = [] ∧ 8 ≤ st.nx ∧ st.H 0 = some (.cells (some 26) ([.sl (cellsL cGSpan x0_s.Dry) (List.length x0_s.Dry) false] ++ [.sl (cellsL eI x0_s.Work) (List.length x0_s.Work) false] ++ [y3_0])) ∧ st.H 1 = some (.cells (some 26) ([.lit (.slice none 0 0)] ++ [.lit (.slice none 0 0)] ++ [.lit (.slice none 0 0)])) ∧ st.tm 1 = .lit (.int .i64 x1_by) ∧ st.tm 2 = .ptr 0 0 ∧ st.tm 4 = .ptr 1 0 ∧ st.tm 5 = .sl (cellsL cGCoatCoat x0_s.Coats) (List.length x0_s.Coats) false ∧ st.tm 6 = .lit (.int .i64 c3_6) ∧ ((∃ (β : Nat) (el : Option TypeId), y3_0 = .ref β 0 (List.length c3_o0) 2 (List.length c3_o0) ∧ β < st.nx ∧ β ≠ 0 ∧ β ≠ 1 ∧ st.H β = some (.cells el (cellsL cGCoatCoat c3_o0))) ∨ (y3_0 = .lit (.slice none 0 0) ∧ c3_o0 = [])) ∧ K3 (f3 p3 c3_6 c3_o0)) := ⟨_, rfl⟩
 refine loopK mixed (by kernel_rfl) I3 (List.length x0_s.Coats) (by rw [hI3]; refine ⟨x0_s.Coats, 0, ([] : List GCoatCoat), .lit (.slice none 0 0), rfl, Int.le_refl _, rfl, rfl, (show 8 ≤ 8 by omega), ?_, ?_, ?_, ?_, ?_, ?_, ?_, Or.inr ⟨rfl, rfl⟩, h⟩ <;> first | (simp only [ua, nm, seval] <;> rfl) | rfl) ?_
 rintro m ⟨tm, H, nx3, df⟩ hinv
 rw [hI3] at hinv
 obtain ⟨p3, c3_6, c3_o0, y3_0, rfl, hi3, hp3, hdf, hn3, H5, H6, e7, e8, e9, e10, e11, ow3_0, h⟩ := hinv
 simp only at hdf hn3 H5 H6 e7 e8 e9 e10 e11 ow3_0
 have n12 := base_ne0 (m := 8) (b := nx3) (by omega)
 subst hdf hf3
 rcases ow3_0 with ⟨b3_0, el3_0, rfl, lq14, lq15, lq16, H13⟩ | ⟨rfl, rfl⟩
 ·have q14 := own_lt lq14
  have q15 := ne_f lq15
  have q16 := ne_f lq16
  cases p3 with
  | nil =>
   have d17 : (decide (c3_6 < (List.length x0_s.Coats : Int))) = false := not_lt_of_drop hi3 hp3
   simp only [g_ref03_Wider_l0, hs, reduceCtorEq] at h
   replace h := kG3 _ h
   try dsimp only at h
   try simp only [hs] at h
   try simp only [vz, tyf, g4, n12, e7, e8, e9, e10, e11, H5, H6, q14, H13, q15, q16, d17, nm, seval]
   refine opd_ret (x := (.agg ([.sl (cellsL cGSpan x0_s.Dry) (List.length x0_s.Dry) false] ++ [.sl (cellsL eI x0_s.Work) (List.length x0_s.Work) false] ++ [.ref b3_0 0 (List.length c3_o0) 2 (List.length c3_o0)]))) (by first | (simp only [Tryz.results40, resV, resL, resV1, tgt_ptr, tgt_tp, uw, cr, tyf, g4, n12, e7, e8, e9, e10, e11, H5, H6, q14, H13, q15, q16, d17, nm, seval] <;> rfl) | rfl) ?_
   obtain rfl := kF _ h
   refine rr_tree ?_ ?_
   ·simp only [tre, tytre, Bool.and_self]
   ·first | (simp only [outV, uw, showV_ref, cr, tyf, nrm, tynrm, g4, n12, e7, e8, e9, e10, e11, H5, H6, q14, H13, q15, q16, d17, nm, seval] <;> rfl) | rfl
  | cons e3 p3 =>
   have d18 : (decide (c3_6 < (List.length x0_s.Coats : Int))) = true := lt_of_drop hi3 hp3
   have o20 := getI_of_drop hi3 hp3
   have w19 := wrap_next hi3 hp3 g4
   simp only [g_ref03_Wider_l0, hs, reduceCtorEq] at h
   simp only [vz, tyf, g4, n12, e7, e8, e9, e10, e11, H5, H6, q14, H13, q15, q16, d18, (ix24 o20), w19, nm, seval]
   refine cwp_drawTF (fun tm => tm 1 = .lit (.int .i64 x1_by) ∧ tm 2 = .ptr 0 0 ∧ tm 4 = .ptr 1 0 ∧ tm 5 = .sl (cellsL cGCoatCoat x0_s.Coats) (List.length x0_s.Coats) false ∧ tm 6 = .lit (.int .i64 c3_6) ∧ True) (by refine ⟨e7, e8, e9, e10, e11, trivial⟩ <;> first | (simp only [ua, n12, e7, e8, e9, e10, e11, H5, H6, q14, H13, q15, q16, d18, w19, nm, seval] <;> rfl) | rfl) ?_
   rintro tm ⟨e21, e22, e23, e24, e25, _⟩
   have b26 := And.intro g4 (And.intro n12 (And.intro H5 (And.intro H6 (And.intro q14 (And.intro H13 (And.intro q15 (And.intro q16 (And.intro d18 w19))))))))
   cases g27 : (roomOk 16 (List.length (c3_o0 ++ [(GCoatCoat.mk e3.Need (IntKind.i64.wrap (e3.Peel + x1_by)))])))
   ·simp only [g27, hs] at h
    exact absurd h kN3
   simp only [g27, hs] at h
   simp only [vz, tyf, b26, (ix24 o20), e21, e22, e23, e24, e25, g27, nm, seval]
   refine k_app (w := 2) (enc := cGCoatCoat) (xs := c3_o0) (ys := ([(GCoatCoat.mk e3.Need (IntKind.i64.wrap (e3.Peel + x1_by)))])) (el := el3_0) (el2 := (some 59)) (fun _ => rfl) lf24 ao24 Tryz.underlying24 (by first | rfl | assumption | (simp only [updH_apply, without_apply, et24, b26, nm, seval] <;> rfl) | (simp only [updH_apply, without_apply, cellsL_cons, cellsL_nil, mV_app, mV_app0, tyf, b26, (ix24 o20), e21, e22, e23, e24, e25, g27, nm, seval]; done)) (by first | rfl | assumption | (simp only [updH_apply, without_apply, et24, b26, nm, seval] <;> rfl) | (simp only [updH_apply, without_apply, cellsL_cons, cellsL_nil, mV_app, mV_app0, tyf, b26, (ix24 o20), e21, e22, e23, e24, e25, g27, nm, seval]; done)) (Nat.zero_lt_succ _) g27 ?_
   simp only [vz, tyf, b26, (ix24 o20), e21, e22, e23, e24, e25, g27, nm, seval]
   refine drawK_nil ⟨?_, ?_⟩
   ·simp only [traceR_cons, traceR_nil, hitK_quiet, hitK_nil, and_true, true_and]
    repeat' (first | exact trivial | refine And.intro ?_ ?_ | rw [hitK_quiet] | rw [hitK_cons] | exact Or.inl (by decide +kernel) | exact Or.inl (by dsimp only; decide +kernel) | (refine Or.inr ⟨?_, ?_⟩ <;> simp; done) | (refine Or.inr ⟨?_, ?_⟩ <;> simp <;> omega) | (refine Or.inr ⟨?_, ?_⟩ <;> simp [VEff.wr] <;> omega))
   simp only [vz, tyf, b26, (ix24 o20), e21, e22, e23, e24, e25, g27, nm, seval]
   exact ⟨List.length p3, Nat.lt_succ_self _, by rw [hI3]; refine ⟨p3, c3_6 + 1, (c3_o0 ++ [(GCoatCoat.mk e3.Need (IntKind.i64.wrap (e3.Peel + x1_by)))]), .ref (nx3 + 20) 0 (List.length (c3_o0 ++ [(GCoatCoat.mk e3.Need (IntKind.i64.wrap (e3.Peel + x1_by)))])) 2 (List.length (c3_o0 ++ [(GCoatCoat.mk e3.Need (IntKind.i64.wrap (e3.Peel + x1_by)))])), rfl, Int.le_trans hi3 (Int.le_add_one (Int.le_refl _)), drop_next hi3 hp3, rfl, (show 8 ≤ nx3 + 26 by omega), ?_, ?_, e21, e22, e23, e24, ?_, Or.inl ⟨nx3 + 20, (sameEl el3_0 59), rfl, (by first | omega | (simp only [nm, seval]; omega)), (by first | omega | (intro hh; simp only [b26, reduceCtorEq] at hh)), (by first | omega | (intro hh; simp only [b26, reduceCtorEq] at hh)), ?_⟩, h⟩ <;> first | (simp only [ua, b26, e21, e22, e23, e24, e25, nm, seval] <;> rfl) | rfl⟩
 ·cases p3 with
  | nil =>
   have d28 : (decide (c3_6 < (List.length x0_s.Coats : Int))) = false := not_lt_of_drop hi3 hp3
   simp only [g_ref03_Wider_l0, hs, reduceCtorEq] at h
   replace h := kG3 _ h
   try dsimp only at h
   try simp only [hs] at h
   try simp only [vz, tyf, g4, n12, e7, e8, e9, e10, e11, H5, H6, d28, nm, seval]
   refine opd_ret (x := (.agg ([.sl (cellsL cGSpan x0_s.Dry) (List.length x0_s.Dry) false] ++ [.sl (cellsL eI x0_s.Work) (List.length x0_s.Work) false] ++ [.lit (.slice none 0 0)]))) (by first | (simp only [Tryz.results40, resV, resL, resV1, tgt_ptr, tgt_tp, uw, cr, tyf, g4, n12, e7, e8, e9, e10, e11, H5, H6, d28, nm, seval] <;> rfl) | rfl) ?_
   obtain rfl := kF _ h
   refine rr_tree ?_ ?_
   ·simp only [tre, tytre, Bool.and_self]
   ·first | (simp only [outV, uw, showV_ref, cr, tyf, nrm, tynrm, g4, n12, e7, e8, e9, e10, e11, H5, H6, d28, nm, seval] <;> rfl) | rfl
  | cons e3 p3 =>
   have d29 : (decide (c3_6 < (List.length x0_s.Coats : Int))) = true := lt_of_drop hi3 hp3
   have o31 := getI_of_drop hi3 hp3
   have w30 := wrap_next hi3 hp3 g4
   simp only [g_ref03_Wider_l0, hs, reduceCtorEq] at h
   simp only [vz, tyf, g4, n12, e7, e8, e9, e10, e11, H5, H6, d29, (ix24 o31), w30, nm, seval]
   refine cwp_drawTF (fun tm => tm 1 = .lit (.int .i64 x1_by) ∧ tm 2 = .ptr 0 0 ∧ tm 4 = .ptr 1 0 ∧ tm 5 = .sl (cellsL cGCoatCoat x0_s.Coats) (List.length x0_s.Coats) false ∧ tm 6 = .lit (.int .i64 c3_6) ∧ True) (by refine ⟨e7, e8, e9, e10, e11, trivial⟩ <;> first | (simp only [ua, n12, e7, e8, e9, e10, e11, H5, H6, d29, w30, nm, seval] <;> rfl) | rfl) ?_
   rintro tm ⟨e32, e33, e34, e35, e36, _⟩
   cases g37 : (roomOk 16 (List.length (([] : List GCoatCoat) ++ [(GCoatCoat.mk e3.Need (IntKind.i64.wrap (e3.Peel + x1_by)))])))
   ·simp only [g37, hs] at h
    exact absurd h kN3
   simp only [g37, hs] at h
   simp only [vz, tyf, g4, n12, H5, H6, d29, (ix24 o31), w30, e32, e33, e34, e35, e36, g37, nm, seval]
   refine k_appN (w := 2) (enc := cGCoatCoat) (ys := ([(GCoatCoat.mk e3.Need (IntKind.i64.wrap (e3.Peel + x1_by)))])) (el2 := (some 59)) (fun _ => rfl) lf24 ao24 Tryz.underlying24 (by first | rfl | assumption | (simp only [updH_apply, without_apply, et24, n12, H5, H6, nm, seval] <;> rfl) | (simp only [updH_apply, without_apply, cellsL_cons, cellsL_nil, mV_app, mV_app0, tyf, g4, n12, H5, H6, d29, (ix24 o31), w30, e32, e33, e34, e35, e36, g37, nm, seval]; done)) (Nat.zero_lt_succ _) g37 ?_
   simp only [vz, tyf, g4, n12, H5, H6, d29, (ix24 o31), w30, e32, e33, e34, e35, e36, g37, nm, seval]
   refine drawK_nil ⟨?_, ?_⟩
   ·simp only [traceR_cons, traceR_nil, hitK_quiet, hitK_nil, and_true, true_and]
    repeat' (first | exact trivial | refine And.intro ?_ ?_ | rw [hitK_quiet] | rw [hitK_cons] | exact Or.inl (by decide +kernel) | exact Or.inl (by dsimp only; decide +kernel) | (refine Or.inr ⟨?_, ?_⟩ <;> simp; done) | (refine Or.inr ⟨?_, ?_⟩ <;> simp <;> omega) | (refine Or.inr ⟨?_, ?_⟩ <;> simp [VEff.wr] <;> omega))
   simp only [vz, tyf, g4, n12, H5, H6, d29, (ix24 o31), w30, e32, e33, e34, e35, e36, g37, nm, seval]
   exact ⟨List.length p3, Nat.lt_succ_self _, by rw [hI3]; refine ⟨p3, c3_6 + 1, (([] : List GCoatCoat) ++ [(GCoatCoat.mk e3.Need (IntKind.i64.wrap (e3.Peel + x1_by)))]), .ref (nx3 + 20) 0 (List.length (([] : List GCoatCoat) ++ [(GCoatCoat.mk e3.Need (IntKind.i64.wrap (e3.Peel + x1_by)))])) 2 (List.length (([] : List GCoatCoat) ++ [(GCoatCoat.mk e3.Need (IntKind.i64.wrap (e3.Peel + x1_by)))])), rfl, Int.le_trans hi3 (Int.le_add_one (Int.le_refl _)), drop_next hi3 hp3, rfl, (show 8 ≤ nx3 + 26 by omega), ?_, ?_, e32, e33, e34, e35, ?_, Or.inl ⟨nx3 + 20, (some 59), rfl, (by first | omega | (simp only [nm, seval]; omega)), (by first | omega | (intro hh; simp only [n12, reduceCtorEq] at hh)), (by first | omega | (intro hh; simp only [n12, reduceCtorEq] at hh)), ?_⟩, h⟩ <;> first | (simp only [ua, n12, H5, H6, d29, w30, e32, e33, e34, e35, e36, nm, seval] <;> rfl) | rfl⟩
end Go.V
end
section
namespace Go.V
open Go
set_option linter.unusedVariables false
set_option linter.unusedSimpArgs false
def nevK (k : GCoatCoat) : GCoatCoat := ⟨k.Need, 288⟩
def widK (b : Int) (k : GCoatCoat) : GCoatCoat := ⟨k.Need, k.Peel + b⟩
def nevS (s : GCoatSheet) : GCoatSheet := ⟨s.Dry, s.Work, s.Coats.map nevK⟩
def widS (s : GCoatSheet) (b : Int) : GCoatSheet := ⟨s.Dry, s.Work, s.Coats.map (widK b)⟩
theorem never_l0 : ∀ (p r pre : List GCoatCoat) (c : Int), c = pre.length → p.length = r.length → g_coat_neverPeeling_l0 p c (pre ++ r) = some (.go (pre ++ r.map nevK))
 | [], [], pre, c, hc, _ => rfl
 | e :: p, x :: r, pre, c, hc, hl => by
  have hd : (pre ++ x :: r).drop c.toNat = x :: r := by
   rw [show c.toNat = pre.length by omega, List.drop_left]
  have hs : (pre ++ x :: r).set c.toNat (GCoatCoat.mk x.Need 288) = (pre ++ [nevK x]) ++ r := by
   rw [show c.toNat = pre.length by omega]
   simp [nevK]
  rw [g_coat_neverPeeling_l0, getI_of_drop (by omega) hd, Option.bind_some, hs, never_l0 p r (pre ++ [nevK x]) (c + 1) (by simp; omega) (by simpa using hl)]
  simp
theorem cloneC_eq {p : List GCoatCoat} (h1 : 1 ≤ p.length) (h2 : p.length ≤ 1000) : g_slices_Clone_CoatCoat p = some p := by
 unfold g_slices_Clone_CoatCoat
 rw [show roomOk 16 p.length = true by simp [roomOk]; omega, show neB p = true by cases p with | nil => simp at h1 | cons a p => rfl]
 rfl
theorem never_eq {s : GCoatSheet} (h : ShOk s) : g_coat_neverPeeling s = some (nevS s) := by
 have hc := h.c
 unfold g_coat_neverPeeling
 rw [cloneC_eq (by omega) (by omega), Option.bind_some, lenOk_of (by omega), cond_true]
 have := never_l0 s.Coats s.Coats [] 0 rfl rfl
 rw [List.nil_append, List.nil_append] at this
 rw [this]
 rfl
theorem wider_l0 {b : Int} (h0 : 0 ≤ b ∧ b ≤ 400) : ∀ (p : List GCoatCoat) (c : Int) (a : List GCoatCoat), (∀ k ∈ p, 0 ≤ k.Peel ∧ k.Peel ≤ 400) → a.length + p.length ≤ 500 → g_ref03_Wider_l0 b p c a = some (.go (a ++ p.map (widK b)))
 | [], _, a, _, _ => by simp [g_ref03_Wider_l0]
 | e :: p, c, a, hp, hl => by
  simp only [List.length_cons] at hl
  have he := hp e (by simp)
  rw [g_ref03_Wider_l0, wrap_eq (by omega) (by omega), show roomOk 16 (a ++ [GCoatCoat.mk e.Need (e.Peel + b)]).length = true by simp [roomOk]; omega, cond_true, wider_l0 h0 p (c + 1) _ (fun k hk => hp k (List.mem_cons_of_mem _ hk)) (by simp; omega)]
  simp [widK]
theorem wider_eq {s : GCoatSheet} (h : ShOk s) (hk : ∀ k ∈ s.Coats, 0 ≤ k.Peel ∧ k.Peel ≤ 400) {b : Int} (h0 : 0 ≤ b ∧ b ≤ 400) : g_ref03_Wider s b = some (widS s b) := by
 have hc := h.c
 unfold g_ref03_Wider
 rw [lenOk_of (by omega), cond_true, wider_l0 h0 s.Coats 0 [] hk (by simp; omega), List.nil_append]
 rfl
def exL (hi : Int → Int) : List Int → List GCoatCoat → Int
 | a :: b :: q, k :: cs => if exL hi (b :: q) cs < hi b - hi a - k.Peel then hi b - hi a - k.Peel else exL hi (b :: q) cs
 | _, _ => 0
theorem exL_nonneg {hi : Int → Int} : ∀ (q : List Int) (cs : List GCoatCoat), 0 ≤ exL hi q cs
 | [], _ => by simp [exL]
 | [a], _ => by simp [exL]
 | a :: b :: q, [] => by simp [exL]
 | a :: b :: q, k :: cs => by
  have := exL_nonneg (hi := hi) (b :: q) cs
  rw [exL]
  split <;> omega
theorem excess_l0 {s : GCoatSheet} (h : ShOk s) (hk : ∀ k ∈ s.Coats, 0 ≤ k.Peel ∧ k.Peel ≤ 400) {pl : List Int} (hr : ∀ d ∈ pl, 0 ≤ d ∧ d ≤ (s.Dry.length : Int)) : ∀ (p : List Int) (cs : List GCoatCoat) (c acc : Int), 0 ≤ c → pl.drop c.toNat = p → s.Coats.drop c.toNat = cs → p.length = cs.length → 0 ≤ acc →
  g_coat_sums_excess_l0 (sumsOf s) pl (p.length - 1) c acc = some (.go (if acc < exL (hiS s) p cs then exL (hiS s) p cs else acc))
 | [], cs, c, acc, _, _, _, _, ha => by
  rw [show exL (hiS s) [] cs = 0 by simp [exL], if_neg (by omega)]
  rfl
 | [a], cs, c, acc, _, _, _, _, ha => by
  rw [show exL (hiS s) [a] cs = 0 by simp [exL], if_neg (by omega)]
  rfl
 | a :: b :: q, k :: cs, c, acc, h0, hp, hc, hl, ha => by
  have e1 := getI_of_drop h0 hp
  have hp2 := drop_next h0 hp
  have e2 := getI_of_drop (by omega) hp2
  have e3 : getI (sumsOf s).CoatSheet.Coats c = some k := getI_of_drop h0 hc
  have ma : a ∈ pl := List.mem_of_mem_drop (by rw [hp]; simp)
  have mb : b ∈ pl := List.mem_of_mem_drop (by rw [hp]; simp)
  have mk : k ∈ s.Coats := List.mem_of_mem_drop (by rw [hc]; simp)
  have hk1 := hk k mk
  have e4 := greatest_eq (x := sumsOf s) (hi := hiS s) (fun k h0 h1 => getI_pre h0 h1) (SI_bd h.dk.high) (hr a ma) (hr b mb)
  have b1 := SI_bd h.dk.high a
  have b2 := SI_bd h.dk.high b
  have hw : IntKind.i64.wrap ((hiS s b - hiS s a) - k.Peel) = hiS s b - hiS s a - k.Peel := wrap_eq (by show _ ≤ SI _ b - SI _ a - _; omega) (by show SI _ b - SI _ a - _ < _; omega)
  have ih := fun acc' => excess_l0 h hk hr (b :: q) cs (c + 1) acc' (by omega) hp2 (drop_next h0 hc) (by simpa using hl)
  show g_coat_sums_excess_l0 (sumsOf s) pl (q.length + 1) c acc = _
  rw [g_coat_sums_excess_l0, e1, Option.bind_some, e2, Option.bind_some, e4, Option.bind_some, e3, Option.bind_some, hw]
  have hih := ih (if acc < hiS s b - hiS s a - k.Peel then hiS s b - hiS s a - k.Peel else acc) (by split <;> omega)
  rw [show (b :: q).length - 1 = q.length from rfl] at hih
  rw [hih, exL]
  congr 2
  split <;> split <;> split <;> (try split) <;> omega
theorem excess_eq {s : GCoatSheet} (h : ShOk s) (hk : ∀ k ∈ s.Coats, 0 ≤ k.Peel ∧ k.Peel ≤ 400) {q : List Int} (hl : q.length = s.Coats.length) (hr : ∀ d ∈ q, 0 ≤ d ∧ d ≤ (s.Dry.length : Int) - 1) : g_coat_sums_excess (sumsOf s) q = some (exL (hiS s) q s.Coats) := by
 have hc := h.c
 unfold g_coat_sums_excess
 rw [wrap_eq (by omega) (by omega), show boundOk ((q.length : Int) - 1) = true by simp [boundOk]; omega, cond_true, show Int.toNat ((q.length : Int) - 1 - 0) = q.length - 1 by omega,
  excess_l0 h hk (fun d hd => by have := hr d hd; omega) q s.Coats 0 0 (by omega) rfl rfl hl (by omega)]
 have := exL_nonneg (hi := hiS s) q s.Coats
 show some _ = some _
 congr 1
 split <;> omega
theorem failW_wid {lo hi : Int → Int} {n b : Int} (h0 : 0 ≤ b) (hb : ∀ a c, hi c - hi a ≤ 288) : ∀ (q : List Int) (cs : List GCoatCoat) (i : Int), q.length = cs.length →
  (failW lo hi n q (cs.map (widK b)) i = none ↔ failW lo hi n q (cs.map nevK) i = none ∧ exL hi q cs ≤ b)
 | [], [], i, _ => by simp [failW, exL, h0]
 | [a], [k], i, _ => by
  simp only [List.map_cons, List.map_nil, failW, nevK, widK, exL, List.isEmpty_nil, Bool.not_true, Bool.false_and, cond_false]
  simp [h0]
 | a :: c :: p, k :: cs, i, hl => by
  have ih := failW_wid (lo := lo) (n := n) h0 hb (c :: p) cs (i + 1) (by simpa using hl)
  rw [List.map_cons, List.map_cons]
  generalize hA : cs.map (widK b) = A at ih
  generalize hB : cs.map nevK = B at ih
  rw [failW, failW, exL]
  simp only [nevK, widK, List.isEmpty_cons, Bool.not_false, Bool.true_and, List.headD_cons]
  by_cases hq0 : lo c - lo a < k.Need
  ·simp only [hq0, decide_true, cond_true]
   simp
  ·have h1 : ¬ (hi c - hi a > 288) := by have := hb a c; omega
   simp only [hq0, h1, decide_false, cond_false]
   by_cases hq : hi c - hi a > k.Peel + b
   ·simp only [hq, decide_true, cond_true]
    constructor
    ·intro hh; cases hh
    ·rintro ⟨_, h⟩
     split at h <;> omega
   ·simp only [hq, decide_false, cond_false]
    rw [ih]
    constructor
    ·rintro ⟨h1, h2⟩
     exact ⟨h1, by split <;> omega⟩
    ·rintro ⟨h1, h2⟩
     exact ⟨h1, by split at h2 <;> omega⟩
theorem planB_wid (s : GCoatSheet) (b : Int) (q : List Int) : planB (widS s b) q = planB (nevS s) q := by
 unfold planB widS nevS
 simp only [List.length_map]
theorem ShOk.nev {s : GCoatSheet} (h : ShOk s) : ShOk (nevS s) := ⟨h.dk, by unfold nevS; simp only [List.length_map]; exact h.c, h.w, h.wl, h.u⟩
theorem planB_range {s : GCoatSheet} {q : List Int} (h : planB s q = true) : q.length = s.Coats.length ∧ ∀ d ∈ q, 0 ≤ d ∧ d ≤ (s.Dry.length : Int) - 1 := by
 unfold planB incB at h
 simp only [Bool.and_eq_true, inB_iff, List.all_eq_true, decide_eq_true_eq] at h
 refine ⟨h.1.1, fun x hx => ?_⟩
 have := h.1.2.2 x hx
 unfold dayB at this
 exact inB_iff.1 this
theorem sure_wid {s : GCoatSheet} (h : ShOk s) {b : Int} (h0 : 0 ≤ b) {q : List Int} (hl : q.length = s.Coats.length) : sureB s.Dry (widS s b).Coats q = true ↔ sureB s.Dry (nevS s).Coats q = true ∧ exL (hiS s) q s.Coats ≤ b := by
 have hb : ∀ a c, hiS s c - hiS s a ≤ 288 := fun a c => by
  have h1 := SI_bd h.dk.high a
  have h2 := SI_bd h.dk.high c
  show SI _ c - SI _ a ≤ 288
  omega
 have := failW_wid (lo := loS s) (n := s.Dry.length) h0 hb q s.Coats 0 hl
 unfold sureB worstW
 rw [Option.isNone_iff_eq_none, Option.isNone_iff_eq_none]
 exact this
theorem NEP_wid {s : GCoatSheet} (h : ShOk s) {b : Int} (h0 : 0 ≤ b) : NEP (widS s b) ↔ ∃ q, (planB (nevS s) q = true ∧ sureB s.Dry (nevS s).Coats q = true) ∧ exL (hiS s) q s.Coats ≤ b := by
 unfold NEP
 constructor
 ·rintro ⟨q, h1, h2⟩
  rw [planB_wid] at h1
  have hl := (planB_range h1).1
  have hl2 : q.length = s.Coats.length := by rw [hl]; simp [nevS]
  have := (sure_wid h h0 hl2).1 h2
  exact ⟨q, ⟨h1, this.1⟩, this.2⟩
 ·rintro ⟨q, ⟨h1, h2⟩, h3⟩
  have hl := (planB_range h1).1
  have hl2 : q.length = s.Coats.length := by rw [hl]; simp [nevS]
  exact ⟨q, by rw [planB_wid]; exact h1, (sure_wid h h0 hl2).2 ⟨h2, h3⟩⟩
theorem wid_zero (s : GCoatSheet) : widS s 0 = s := by
 unfold widS
 have : widK 0 = id := by funext k; simp [widK]
 rw [this, List.map_id]
theorem slack_eq {s : GCoatSheet} (hs : OkS s) (h1 : sheetB s = true) (hk : ∀ k ∈ s.Coats, 0 ≤ k.Peel ∧ k.Peel ≤ 400) :
  (g_coat_Slack s = some (0, 5) ∧ ∀ q, ¬ (planB (nevS s) q = true ∧ sureB s.Dry (nevS s).Coats q = true)) ∨
  (∃ q, g_coat_Slack s = some (exL (hiS s) q s.Coats, 0) ∧ (planB (nevS s) q = true ∧ sureB s.Dry (nevS s).Coats q = true) ∧ ∀ x, (planB (nevS s) x = true ∧ sureB s.Dry (nevS s).Coats x = true) → exL (hiS s) q s.Coats ≤ exL (hiS s) x s.Coats) := by
 have h := ShOk.of h1
 have hn := h.nev
 obtain ⟨L, e, hm, hp, _⟩ := plans_eq hn
 have e0 : ∀ r, bestO (fun a b => g_coat_Slack_1 a b (sumsOf s)) L ([], false) = some r → g_coat_Slack s = cond r.2 (Option.bind (g_coat_sums_excess (sumsOf s) r.1) fun n => some (n, 0)) (some (0, 5)) := by
  intro r hr
  unfold g_coat_Slack
  rw [isSheet_eq hs, h1, Option.bind_some, cond_true, summed_of h.dk, Option.bind_some, never_eq h, Option.bind_some, summed_of hn.dk, Option.bind_some, e, Option.bind_some, hr, Option.bind_some]
 have hex : ∀ q ∈ L, g_coat_sums_excess (sumsOf s) q = some (exL (hiS s) q s.Coats) := fun q hq => by
  have := planB_range ((hm q).1 hq).1
  exact excess_eq h hk (by rw [this.1]; simp [nevS]) this.2
 cases hL : L with
 | nil =>
  left
  refine ⟨e0 ([], false) (by rw [hL]; rfl), fun q hq => ?_⟩
  have := (hm q).2 hq
  rw [hL] at this
  cases this
 | cons y M =>
  right
  have hb : ∀ a, a ∈ y :: M → ∀ c, c ∈ y :: M → (fun a b => g_coat_Slack_1 a b (sumsOf s)) a c = some (decide (exL (hiS s) a s.Coats < exL (hiS s) c s.Coats)) := by
   intro a ha c hcc
   rw [← hL] at ha hcc
   show g_coat_Slack_1 a c (sumsOf s) = _
   unfold g_coat_Slack_1
   rw [hex a ha, hex c hcc]
   rfl
  obtain ⟨q, hq, hqm, hqx⟩ := bestO_some (f := fun x => exL (hiS s) x s.Coats) hb (by rw [← hL]; exact hp)
  rw [← hL] at hqm
  refine ⟨q, ?_, (hm q).1 hqm, fun x hx => (hqx x (by rw [← hL]; exact (hm x).2 hx)).1⟩
  rw [e0 (q, true) (by rw [hL]; exact hq), cond_true, hex q hqm]
  rfl
end Go.V
end
