/- Part of a proof: a logic of values by content, lifted functions, what follows. -/
import Derived.Test.YtdhkepdioiicfaaGreatDoorEbf
import Derived.Test.YtdhkepdioiicfaaGreatDoorEbi
import Derived.Test.YtdhkepdioiicfaaGreatDoorEbl
import Derived.Test.YtdhkepdioiicfaaGreatDoorEbm
import Derived.Test.YtdhkepdioiicfaaGreatDoorEbn
import Derived.Test.YtdhkepdioiicfaaGreatDoorEbo
import Derived.Test.YtdhkepdioiicfaaGreatDoorEay
import Derived.Test.YtdhkepdioiicfaaGreatDoorProg
import Derived.Test.YtdhkepdioiicfaaGreatDoorEbj
set_option linter.all false
set_option maxRecDepth 4000
set_option maxHeartbeats 4000000
section
namespace Go.V
open Go Go.Proofs
def g_ref02_Moved (x0_b : GSightBoard) (x1_at : Int) : Option (GSightBoard) := some (GSightBoard.mk x1_at x0_b.Letters)
theorem g_ref02_Moved_ok (x0_b : GSightBoard) (x1_at : Int) (R : GSightBoard) (h : g_ref02_Moved x0_b x1_at = some R) : VPure Tryz.prog G0 36 [.agg (cGSightBoard x0_b), .lit (.int .i64 x1_at)] (.tree (.agg (cGSightBoard R))) := by
 refine VPure.runR mixed Tryz.call36 Tryz.func36 rfl (by simp [Tryz.ntmps36]; kernel_rfl) ?_
 obtain ⟨KF, h, kF, kN⟩ := fun_intro h
 simp only [g_ref02_Moved] at h
 try simp only [vz, tyf, nm, seval]
 refine opd_ret (x := (.agg ([.lit (.int .i64 x1_at)] ++ [.sl (cellsL cGSightLetter x0_b.Letters) (List.length x0_b.Letters) false]))) (by first | (simp only [Tryz.results36, resV, resL, resV1, tgt_ptr, tgt_tp, uw, cr, tyf, nm, seval] <;> rfl) | rfl) ?_
 obtain rfl := kF _ h
 refine rr_tree ?_ ?_
 ·simp only [tre, tytre, Bool.and_self]
 ·first | (simp only [outV, uw, showV_ref, cr, tyf, nrm, tynrm, nm, seval] <;> rfl) | rfl
end Go.V
end
section
namespace Go.V
open Go Go.Proofs
end Go.V
end
section
namespace Go.V
open Go
abbrev hangB (b : GSightBoard) (c : Int) : GSightBoard := ⟨c, b.Letters⟩
def hangN (s : GSightStreet) (b : GSightBoard) (c : Int) : Int := (((allP s).filter (sureB s (hangB b c))).length : Int)
def hF (f : Int → Int) : Nat → Int → Int → Int → Bool → Int → Int × Int × Bool × Int
 | 0, c, o0, o1, o2, o3 => (o0, o1, o2, o3)
 | k + 1, c, o0, o1, o2, o3 => cond o2 (cond (decide (f c > o1)) (hF f k (c + 1) c (f c) true c) (hF f k (c + 1) o0 o1 true c)) (hF f k (c + 1) c (f c) true c)
def rF (f : Int → Int) : Nat → Int → Int → Int → Int × Int
 | 0, c, a, m => (a, m)
 | k + 1, c, a, m => cond (decide (f c > m)) (rF f k (c + 1) c (f c)) (rF f k (c + 1) a m)
theorem hF_rF (f : Int → Int) : ∀ (k : Nat) (c o0 o1 o3 : Int), (hF f k c o0 o1 true o3).1 = (rF f k c o0 o1).1 ∧ (hF f k c o0 o1 true o3).2.1 = (rF f k c o0 o1).2
 | 0, _, _, _, _ => ⟨rfl, rfl⟩
 | k + 1, c, o0, o1, o3 => by
  simp only [hF, rF, cond_true]
  cases decide (f c > o1) with
  | true => exact hF_rF f k _ _ _ _
  | false => exact hF_rF f k _ _ _ _
theorem rF_best (f : Int → Int) : ∀ (k : Nat) (c a m : Int), (∀ i, (rF f k c a m).2 < f i → i < c ∨ c + k ≤ i) ∧ m ≤ (rF f k c a m).2 ∧
  (((rF f k c a m) = (a, m)) ∨ (c ≤ (rF f k c a m).1 ∧ (rF f k c a m).1 < c + k ∧ f (rF f k c a m).1 = (rF f k c a m).2 ∧ m < (rF f k c a m).2 ∧ ∀ i, c ≤ i → i < (rF f k c a m).1 → f i < (rF f k c a m).2))
 | 0, c, a, m => ⟨fun i _ => by omega, Int.le_refl _, .inl rfl⟩
 | k + 1, c, a, m => by
  by_cases h : f c > m
  ·have e : rF f (k + 1) c a m = rF f k (c + 1) c (f c) := by simp only [rF, decide_eq_true h, cond_true]
   rw [e]
   obtain ⟨h1, h2, h3⟩ := rF_best f k (c + 1) c (f c)
   refine ⟨fun i hi => ?_, by omega, .inr ?_⟩
   ·rcases h1 i hi with h | h
    ·by_cases hc : i = c
     ·subst hc; omega
     ·omega
    ·omega
   ·rcases h3 with h3 | ⟨a1, a2, a3, a4, a5⟩
    ·rw [h3]; exact ⟨Int.le_refl _, by omega, rfl, h, fun i h1 h2 => by simp only at h2; omega⟩
    ·refine ⟨by omega, by omega, a3, by omega, fun i h1 h2 => ?_⟩
     by_cases hc : i = c
     ·subst hc; exact a4
     ·exact a5 i (by omega) h2
  ·have e : rF f (k + 1) c a m = rF f k (c + 1) a m := by simp only [rF, decide_eq_false h, cond_false]
   rw [e]
   obtain ⟨h1, h2, h3⟩ := rF_best f k (c + 1) a m
   refine ⟨fun i hi => ?_, h2, ?_⟩
   ·rcases h1 i hi with h | h
    ·by_cases hc : i = c
     ·subst hc; omega
     ·omega
    ·omega
   ·rcases h3 with h3 | ⟨a1, a2, a3, a4, a5⟩
    ·exact .inl h3
    ·refine .inr ⟨by omega, by omega, a3, a4, fun i h1 h2 => ?_⟩
     by_cases hc : i = c
     ·subst hc; omega
     ·exact a5 i (by omega) h2
section
variable {s : GSightStreet} {b : GSightBoard}
theorem good_at {p : GSightPlace} {c : Int} (h : Good s b p) (h0 : 0 ≤ c) (h1 : c ≤ 40) : Good s (hangB b c) p :=
 ⟨h.el, h.em, h.eh, h.ll, h.lm, h.lh, h0, h1, h.n1, h.n5, h.lets, h.last, h.p0, h.p1, h.q0, h.q1, h.nb, h.blks⟩
theorem hg_l2 (t a : Int) : ∀ (k : Nat) (c o : Int), (∀ p ∈ rowP a k c, Good s (hangB b t) p) → 0 ≤ o → o + k ≤ 1000 → g_sight_Hang_l2 s b t a k c o = some (.go (o + ((rowP a k c).filter (sureB s (hangB b t))).length))
 | 0, c, o, h, h0, h1 => by simp [g_sight_Hang_l2, rowP]
 | k + 1, c, o, h, h0, h1 => by
  have ih := fun o' => hg_l2 t a k (c + 1) o' (fun p hp => h p (List.mem_cons_of_mem _ hp))
  simp only [g_sight_Hang_l2, surely_eq (fair_good (h _ (List.mem_cons_self ..))), Option.bind_some, rowP, List.filter_cons]
  cases sureB s (hangB b t) ⟨a, c + 1⟩ with
  | true =>
   simp only [cond_true, if_true, List.length_cons]
   rw [wrap_eq (by omega) (by omega), ih (o + 1) (by omega) (by omega)]
   congr 2; omega
  | false =>
   simp only [cond_false, Bool.false_eq_true, if_false]
   rw [ih o h0 (by omega)]
theorem hg_l1 (hw : s.Width ≤ 12) (hw0 : 0 ≤ s.Width) (t : Int) : ∀ (k : Nat) (c o : Int), (∀ p ∈ gridP s.Width.toNat k c, Good s (hangB b t) p) → 0 ≤ o → o + k * 12 ≤ 1000 → g_sight_Hang_l1 s b t k c o = some (.go (o + ((gridP s.Width.toNat k c).filter (sureB s (hangB b t))).length))
 | 0, c, o, h, h0, h1 => by simp [g_sight_Hang_l1, gridP]
 | k + 1, c, o, h, h0, h1 => by
  have hl := List.length_filter_le (sureB s (hangB b t)) (rowP c s.Width.toNat 0)
  rw [rowP_len] at hl
  simp only [g_sight_Hang_l1, bnd_small (show s.Width ≤ 1000 by omega), cond_true, Int.sub_zero]
  rw [hg_l2 t c s.Width.toNat 0 o (fun p hp => h p (List.mem_append.2 (.inl hp))) h0 (by omega), lbind_go, hg_l1 hw hw0 t k (c + 1) (o + ((rowP c s.Width.toNat 0).filter (sureB s (hangB b t))).length) (fun p hp => h p (List.mem_append.2 (.inr hp))) (by omega) (by omega), gridP, List.filter_append, List.length_append]
  congr 2; omega
theorem hg_l0 (hl : 1 ≤ s.Length ∧ s.Length ≤ 40) (hw : 1 ≤ s.Width ∧ s.Width ≤ 12) (hg : ∀ p ∈ allP s, Good s b p) : ∀ (k : Nat) (c o0 o1 : Int) (o2 : Bool) (o3 : Int), 0 ≤ c → c + k ≤ 41 → g_sight_Hang_l0 s b k c o0 o1 o2 o3 = some (.go (hF (hangN s b) k c o0 o1 o2 o3))
 | 0, c, o0, o1, o2, o3, _, _ => rfl
 | k + 1, c, o0, o1, o2, o3, h0, h1 => by
  have ih := fun o0 o1 o2 o3 => hg_l0 hl hw hg k (c + 1) o0 o1 o2 o3 (by omega) (by omega)
  have h := hg_l1 (s := s) (b := b) hw.2 (by omega) c (s.Length + 1).toNat 0 0 (fun p hp => good_at (hg p hp) h0 (by omega)) (Int.le_refl 0) (by omega)
  simp only [g_sight_Hang_l0, wrap_eq (show -9223372036854775808 ≤ s.Length + 1 by omega) (by omega), Int.sub_zero, h, lbind_go, Int.zero_add, g_sight_Hang_1, Option.bind_some, ih, hF]
  show cond o2 (cond (decide (hangN s b c > o1)) _ _) _ = _
  cases o2 with
  | false => rfl
  | true =>
   simp only [cond_true]
   cases decide (hangN s b c > o1) <;> rfl
theorem Hang_eq {n : Int} (h : FineS s) (h1 : streetB s = true) (h2 : numB s n = true) (hb : getI s.Boards n = some b) (hl : 1 ≤ s.Length ∧ s.Length ≤ 40) (hw : 1 ≤ s.Width ∧ s.Width ≤ 12) (hg : ∀ p ∈ allP s, Good s b p) :
  g_sight_Hang s n = some ((rF (hangN s b) (s.Length + 1).toNat 0 0 (-1)).1, (rF (hangN s b) (s.Length + 1).toNat 0 0 (-1)).2, 0) := by
 have h2' := h2
 simp only [numB] at h2'
 simp only [g_sight_Hang, isStreet_eq s h, isBoard_eq, h1, h2', Option.bind_some, cond_true, hb, wrap_eq (show -9223372036854775808 ≤ s.Length + 1 by omega) (by omega), bnd_small (show s.Length + 1 ≤ 1000 by omega), Int.sub_zero]
 rw [hg_l0 hl hw hg _ _ _ _ _ _ (Int.le_refl 0) (by omega), lbind_go]
 obtain ⟨k, hk⟩ : ∃ k, (s.Length + 1).toNat = k + 1 := ⟨s.Length.toNat, by omega⟩
 rw [hk]
 have hn : hangN s b 0 > -1 := by unfold hangN; omega
 simp only [hF, rF, cond_false, decide_eq_true hn, cond_true]
 obtain ⟨e1, e2⟩ := hF_rF (hangN s b) k (0 + 1) 0 (hangN s b 0) 0
 rw [e1, e2]
end
end Go.V
end
section
namespace Go.V
open Go Go.Proofs
theorem hmix : Tryz.prog.follows .mixedOrders = true := by kernel_rfl
def kS : VV := (Go.V.VV.agg [(Go.V.VV.lit (Go.Value.int Go.IntKind.i64 (Int.ofNat 20))), (Go.V.VV.lit (Go.Value.int Go.IntKind.i64 (Int.ofNat 6))), (Go.V.VV.lit (Go.Value.int Go.IntKind.i64 (Int.ofNat 4))), (Go.V.VV.lit (Go.Value.int Go.IntKind.i64 (Int.ofNat 6))), (Go.V.VV.lit (Go.Value.int Go.IntKind.i64 (Int.ofNat 50))), (Go.V.VV.lit (Go.Value.int Go.IntKind.i64 (Int.ofNat 100))), (Go.V.VV.sl [(Go.V.VV.lit (Go.Value.int Go.IntKind.i64 (Int.ofNat 10))), (Go.V.VV.sl [(Go.V.VV.lit (Go.Value.int Go.IntKind.i64 (Int.ofNat 6))), (Go.V.VV.lit (Go.Value.int Go.IntKind.i64 (Int.ofNat 4))), (Go.V.VV.lit (Go.Value.int Go.IntKind.i64 (Int.ofNat 1))), (Go.V.VV.lit (Go.Value.int Go.IntKind.i64 (Int.ofNat 1))), (Go.V.VV.lit (Go.Value.int Go.IntKind.i64 (Int.ofNat 8))), (Go.V.VV.lit (Go.Value.int Go.IntKind.i64 (Int.ofNat 5))), (Go.V.VV.lit (Go.Value.int Go.IntKind.i64 (Int.ofNat 2))), (Go.V.VV.lit (Go.Value.int Go.IntKind.i64 (Int.ofNat 0)))] 2 Bool.false), (Go.V.VV.lit (Go.Value.int Go.IntKind.i64 (Int.ofNat 0))), (Go.V.VV.sl [(Go.V.VV.lit (Go.Value.int Go.IntKind.i64 (Int.ofNat 10))), (Go.V.VV.lit (Go.Value.int Go.IntKind.i64 (Int.ofNat 10))), (Go.V.VV.lit (Go.Value.int Go.IntKind.i64 (Int.ofNat 2))), (Go.V.VV.lit (Go.Value.int Go.IntKind.i64 (Int.ofNat 0)))] 1 Bool.false)] 2 Bool.false), (Go.V.VV.sl [(Go.V.VV.lit (Go.Value.int Go.IntKind.i64 (Int.ofNat 12))), (Go.V.VV.lit (Go.Value.int Go.IntKind.i64 (Int.ofNat 13))), (Go.V.VV.lit (Go.Value.int Go.IntKind.i64 (Int.ofNat 2))), (Go.V.VV.lit (Go.Value.int Go.IntKind.i64 (Int.ofNat 3))), (Go.V.VV.lit (Go.Value.bool Bool.true)), (Go.V.VV.lit (Go.Value.int Go.IntKind.i64 (Int.ofNat 5))), (Go.V.VV.lit (Go.Value.int Go.IntKind.i64 (Int.ofNat 6))), (Go.V.VV.lit (Go.Value.int Go.IntKind.i64 (Int.ofNat 4))), (Go.V.VV.lit (Go.Value.int Go.IntKind.i64 (Int.ofNat 5))), (Go.V.VV.lit (Go.Value.bool Bool.false))] 2 Bool.false)])
def kT : VV := (Go.V.VV.agg [(Go.V.VV.lit (Go.Value.int Go.IntKind.i64 (Int.ofNat 4))), (Go.V.VV.lit (Go.Value.int Go.IntKind.i64 (Int.ofNat 2))), (Go.V.VV.lit (Go.Value.int Go.IntKind.i64 (Int.ofNat 1))), (Go.V.VV.lit (Go.Value.int Go.IntKind.i64 (Int.ofNat 1))), (Go.V.VV.lit (Go.Value.int Go.IntKind.i64 (Int.ofNat 100))), (Go.V.VV.lit (Go.Value.int Go.IntKind.i64 (Int.ofNat 100))), (Go.V.VV.sl [(Go.V.VV.lit (Go.Value.int Go.IntKind.i64 (Int.ofNat 0))), (Go.V.VV.sl [(Go.V.VV.lit (Go.Value.int Go.IntKind.i64 (Int.ofNat 3))), (Go.V.VV.lit (Go.Value.int Go.IntKind.i64 (Int.ofNat 2))), (Go.V.VV.lit (Go.Value.int Go.IntKind.i64 (Int.ofNat 1))), (Go.V.VV.lit (Go.Value.int Go.IntKind.i64 (Int.ofNat 0)))] 1 Bool.false)] 1 Bool.false), (Go.V.VV.lit (Go.Value.slice Option.none 0 0))])
def kAt46 : VV := (Go.V.VV.agg [(Go.V.VV.lit (Go.Value.int Go.IntKind.i64 (Int.ofNat 4))), (Go.V.VV.lit (Go.Value.int Go.IntKind.i64 (Int.ofNat 6)))])
def kAt41 : VV := (Go.V.VV.agg [(Go.V.VV.lit (Go.Value.int Go.IntKind.i64 (Int.ofNat 4))), (Go.V.VV.lit (Go.Value.int Go.IntKind.i64 (Int.ofNat 1)))])
def kAt201 : VV := (Go.V.VV.agg [(Go.V.VV.lit (Go.Value.int Go.IntKind.i64 (Int.ofNat 20))), (Go.V.VV.lit (Go.Value.int Go.IntKind.i64 (Int.ofNat 1)))])
def kAt166 : VV := (Go.V.VV.agg [(Go.V.VV.lit (Go.Value.int Go.IntKind.i64 (Int.ofNat 16))), (Go.V.VV.lit (Go.Value.int Go.IntKind.i64 (Int.ofNat 6)))])
def kAt106 : VV := (Go.V.VV.agg [(Go.V.VV.lit (Go.Value.int Go.IntKind.i64 (Int.ofNat 10))), (Go.V.VV.lit (Go.Value.int Go.IntKind.i64 (Int.ofNat 6)))])
def kSeen : VV := (Go.V.VV.tup [(Go.V.VV.lit (Go.Value.int Go.IntKind.i64 (Int.ofNat 2))), (Go.V.VV.lit (Go.Value.int Go.IntKind.i64 (Int.ofNat 0)))])
def kWhy : VV := (Go.V.VV.tup [(Go.V.VV.agg [(Go.V.VV.lit (Go.Value.int Go.IntKind.i64 (Int.ofNat 3))), (Go.V.VV.lit (Go.Value.int Go.IntKind.i64 (Int.ofNat 0)))]), (Go.V.VV.lit (Go.Value.int Go.IntKind.i64 (Int.ofNat 0)))])
def kLetters : VV := (Go.V.VV.tup [(Go.V.VV.sl [(Go.V.VV.lit (Go.Value.int Go.IntKind.i64 (Int.ofNat 2))), (Go.V.VV.lit (Go.Value.int Go.IntKind.i64 (Int.ofNat 2)))] 2 Bool.false), (Go.V.VV.lit (Go.Value.int Go.IntKind.i64 (Int.ofNat 0)))])
def kMelts : VV := (Go.V.VV.tup [(Go.V.VV.sl [(Go.V.VV.lit (Go.Value.int Go.IntKind.i64 (Int.ofNat 3)))] 1 Bool.false), (Go.V.VV.lit (Go.Value.int Go.IntKind.i64 (Int.ofNat 0)))])
def kHidden : VV := (Go.V.VV.tup [(Go.V.VV.sl [(Go.V.VV.lit (Go.Value.int Go.IntKind.i64 (Int.ofNat 0)))] 1 Bool.false), (Go.V.VV.lit (Go.Value.int Go.IntKind.i64 (Int.ofNat 0)))])
def kMany : VV := (Go.V.VV.tup [(Go.V.VV.lit (Go.Value.int Go.IntKind.i64 (Int.ofNat 3))), (Go.V.VV.lit (Go.Value.int Go.IntKind.i64 (Int.ofNat 3))), (Go.V.VV.lit (Go.Value.int Go.IntKind.i64 (Int.ofNat 0)))])
def kFarthest : VV := (Go.V.VV.tup [(Go.V.VV.agg [(Go.V.VV.lit (Go.Value.int Go.IntKind.i64 (Int.ofNat 0))), (Go.V.VV.lit (Go.Value.int Go.IntKind.i64 (Int.ofNat 2)))]), (Go.V.VV.lit (Go.Value.int Go.IntKind.i64 (Int.ofNat 0)))])
def kLeast : VV := (Go.V.VV.tup [(Go.V.VV.lit (Go.Value.int Go.IntKind.i64 (Int.ofNat 5))), (Go.V.VV.lit (Go.Value.int Go.IntKind.i64 (Int.ofNat 0)))])
def kLight : VV := (Go.V.VV.tup [(Go.V.VV.lit (Go.Value.int Go.IntKind.i64 (Int.ofNat 38))), (Go.V.VV.lit (Go.Value.int Go.IntKind.i64 (Int.ofNat 0)))])
def kHang : VV := (Go.V.VV.tup [(Go.V.VV.lit (Go.Value.int Go.IntKind.i64 (Int.ofNat 1))), (Go.V.VV.lit (Go.Value.int Go.IntKind.i64 (Int.ofNat 4))), (Go.V.VV.lit (Go.Value.int Go.IntKind.i64 (Int.ofNat 0)))])
def kRead : VV := (Go.V.VV.tup [(Go.V.VV.agg [(Go.V.VV.lit (Go.Value.int Go.IntKind.i64 (Int.ofNat 1))), (Go.V.VV.lit (Go.Value.int Go.IntKind.i64 (Int.ofNat 1))), (Go.V.VV.lit (Go.Value.int Go.IntKind.i64 (Int.ofNat 1))), (Go.V.VV.lit (Go.Value.int Go.IntKind.i64 (Int.ofNat 1))), (Go.V.VV.lit (Go.Value.int Go.IntKind.i64 (Int.ofNat 1))), (Go.V.VV.lit (Go.Value.int Go.IntKind.i64 (Int.ofNat 1))), (Go.V.VV.sl [(Go.V.VV.lit (Go.Value.int Go.IntKind.i64 (Int.ofNat 0))), (Go.V.VV.sl [(Go.V.VV.lit (Go.Value.int Go.IntKind.i64 (Int.ofNat 1))), (Go.V.VV.lit (Go.Value.int Go.IntKind.i64 (Int.ofNat 1))), (Go.V.VV.lit (Go.Value.int Go.IntKind.i64 (Int.ofNat 1))), (Go.V.VV.lit (Go.Value.int Go.IntKind.i64 (Int.ofNat 0)))] 1 Bool.false)] 1 Bool.false), (Go.V.VV.lit (Go.Value.slice Option.none 0 0))]), (Go.V.VV.lit (Go.Value.int Go.IntKind.i64 (Int.ofNat 0)))])
end Go.V
end
section
namespace Go.V
open Go Go.Proofs
theorem pS : VPure Tryz.prog G0 48 [] (.tree kS) := VPure.closedB hmix 1000 (by kernel_rfl)
theorem pT : VPure Tryz.prog G0 51 [] (.tree kT) := VPure.closedB hmix 1000 (by kernel_rfl)
theorem pAt46 : VPure Tryz.prog G0 39 [.lit (.int .i64 (4)), .lit (.int .i64 (6))] (.tree kAt46) := VPure.closedB hmix 1000 (by kernel_rfl)
theorem pAt41 : VPure Tryz.prog G0 39 [.lit (.int .i64 (4)), .lit (.int .i64 (1))] (.tree kAt41) := VPure.closedB hmix 1000 (by kernel_rfl)
theorem pAt201 : VPure Tryz.prog G0 39 [.lit (.int .i64 (20)), .lit (.int .i64 (1))] (.tree kAt201) := VPure.closedB hmix 1000 (by kernel_rfl)
theorem pAt166 : VPure Tryz.prog G0 39 [.lit (.int .i64 (16)), .lit (.int .i64 (6))] (.tree kAt166) := VPure.closedB hmix 1000 (by kernel_rfl)
theorem pAt106 : VPure Tryz.prog G0 39 [.lit (.int .i64 (10)), .lit (.int .i64 (6))] (.tree kAt106) := VPure.closedB hmix 1000 (by kernel_rfl)
theorem pSeen : VPure Tryz.prog G0 25 [kS, .lit (.int .i64 (0)), kAt46] (.tree kSeen) := VPure.closedB hmix 1000 (by kernel_rfl)
theorem pWhy : VPure Tryz.prog G0 40 [kS, .lit (.int .i64 (0)), kAt41] (.tree kWhy) := VPure.closedB hmix 1000 (by kernel_rfl)
theorem pLetters : VPure Tryz.prog G0 49 [kS, .lit (.int .i64 (0)), kAt46] (.tree kLetters) := VPure.closedB hmix 1000 (by kernel_rfl)
end Go.V
end
section
namespace Go.V
open Go Go.Proofs
theorem pMelts : VPure Tryz.prog G0 50 [kS, .lit (.int .i64 (0)), kAt201] (.tree kMelts) := VPure.closedB hmix 1000 (by kernel_rfl)
theorem pHidden : VPure Tryz.prog G0 41 [kS, .lit (.int .i64 (0)), kAt166] (.tree kHidden) := VPure.closedB hmix 1000 (by kernel_rfl)
end Go.V
end
section
namespace Go.V
open Go Go.Proofs
theorem pMany : VPure Tryz.prog G0 17 [kT, .lit (.int .i64 (0))] (.tree kMany) := VPure.closedB hmix 1000 (by kernel_rfl)
theorem pFarthest : VPure Tryz.prog G0 18 [kT, .lit (.int .i64 (0))] (.tree kFarthest) := VPure.closedB hmix 1000 (by kernel_rfl)
theorem pLeast : VPure Tryz.prog G0 52 [kS, .lit (.int .i64 (0)), kAt41] (.tree kLeast) := VPure.closedB hmix 1000 (by kernel_rfl)
end Go.V
end
section
namespace Go.V
open Go Go.Proofs
theorem pLight : VPure Tryz.prog G0 32 [kS, .lit (.int .i64 (0)), kAt106] (.tree kLight) := VPure.closedB hmix 1000 (by kernel_rfl)
end Go.V
end
section
namespace Go.V
open Go Go.Proofs
theorem pHang : VPure Tryz.prog G0 34 [kT, .lit (.int .i64 (0))] (.tree kHang) := VPure.closedB hmix 1000 (by kernel_rfl)
end Go.V
end
section
namespace Go.V
open Go Go.Proofs
theorem pRead : VPure Tryz.prog G0 44 [.lit (.string ⟨⟨[115, 105, 103, 104, 116, 32, 49, 32, 49, 32, 49, 32, 49, 32, 49, 32, 49, 10, 98, 111, 97, 114, 100, 32, 48, 10, 108, 101, 116, 116, 101, 114, 32, 49, 32, 49, 32, 49, 32, 48, 10, 101, 110, 100, 32, 48, 49, 57, 10]⟩⟩)] (.tree kRead) := VPure.closedB hmix 1000 (by kernel_rfl)
end Go.V
end
section
namespace Go.V
open Go Go.Proofs
def kTab : KTab := [
  (48, [], kS),
  (51, [], kT),
  (39, [.lit (.int .i64 (4)), .lit (.int .i64 (6))], kAt46),
  (39, [.lit (.int .i64 (4)), .lit (.int .i64 (1))], kAt41),
  (39, [.lit (.int .i64 (20)), .lit (.int .i64 (1))], kAt201),
  (39, [.lit (.int .i64 (16)), .lit (.int .i64 (6))], kAt166),
  (39, [.lit (.int .i64 (10)), .lit (.int .i64 (6))], kAt106),
  (25, [kS, .lit (.int .i64 (0)), kAt46], kSeen),
  (40, [kS, .lit (.int .i64 (0)), kAt41], kWhy),
  (49, [kS, .lit (.int .i64 (0)), kAt46], kLetters),
  (50, [kS, .lit (.int .i64 (0)), kAt201], kMelts),
  (41, [kS, .lit (.int .i64 (0)), kAt166], kHidden),
  (17, [kT, .lit (.int .i64 (0))], kMany),
  (18, [kT, .lit (.int .i64 (0))], kFarthest),
  (52, [kS, .lit (.int .i64 (0)), kAt41], kLeast),
  (32, [kS, .lit (.int .i64 (0)), kAt106], kLight),
  (34, [kT, .lit (.int .i64 (0))], kHang),
  (44, [.lit (.string ⟨⟨[115, 105, 103, 104, 116, 32, 49, 32, 49, 32, 49, 32, 49, 32, 49, 32, 49, 10, 98, 111, 97, 114, 100, 32, 48, 10, 108, 101, 116, 116, 101, 114, 32, 49, 32, 49, 32, 49, 32, 48, 10, 101, 110, 100, 32, 48, 49, 57, 10]⟩⟩)], kRead)]
theorem kTabOk : KTabOk Tryz.prog G0 kTab := ⟨⟨by kernel_rfl, pS⟩, ⟨⟨by kernel_rfl, pT⟩, ⟨⟨by kernel_rfl, pAt46⟩, ⟨⟨by kernel_rfl, pAt41⟩, ⟨⟨by kernel_rfl, pAt201⟩, ⟨⟨by kernel_rfl, pAt166⟩, ⟨⟨by kernel_rfl, pAt106⟩, ⟨⟨by kernel_rfl, pSeen⟩, ⟨⟨by kernel_rfl, pWhy⟩, ⟨⟨by kernel_rfl, pLetters⟩, ⟨⟨by kernel_rfl, pMelts⟩, ⟨⟨by kernel_rfl, pHidden⟩, ⟨⟨by kernel_rfl, pMany⟩, ⟨⟨by kernel_rfl, pFarthest⟩, ⟨⟨by kernel_rfl, pLeast⟩, ⟨⟨by kernel_rfl, pLight⟩, ⟨⟨by kernel_rfl, pHang⟩, ⟨⟨by kernel_rfl, pRead⟩, trivial⟩⟩⟩⟩⟩⟩⟩⟩⟩⟩⟩⟩⟩⟩⟩⟩⟩⟩
theorem pKnown : VPure Tryz.prog G0 16 [] (.tree (.lit (.bool true))) := VPure.closedT hmix kTabOk 1000 (by kernel_rfl)
#print axioms pKnown
end Go.V
end
section
namespace Go.V
open Go Go.Proofs
theorem g_law02_known_ok : VPure Tryz.prog G0 16 [] (.tree (.lit (.bool true))) := pKnown
end Go.V
end
section
namespace Go.V
open Go Go.Proofs
def g_law02_SightElsewhere (x0_s : GSightStreet) (x1_a1 : Int) (x2_a2 : Int) : Option (Bool) := Option.bind (g_law02_short x0_s) (fun r1 => cond (r1) (Option.bind (g_ref02_Street x0_s) (fun r2 => cond (r2) (Option.bind (g_ref02_Board x0_s x1_a1) (fun r3 => cond (r3) (cond (decide (x2_a2 < 0)) (some true) (cond (decide (x2_a2 > x0_s.Length)) (some true) (Option.bind (g_sight_Hang x0_s x1_a1) (fun r4 => cond (r4.2.2 != 0) (some false) (cond (decide (r4.1 < 0)) (some false) (cond (decide (r4.1 > x0_s.Length)) (some false) (cond (neB x0_s.Boards) (cond (roomOk 32 (List.length ([] ++ x0_s.Boards))) (Option.bind (getI x0_s.Boards x1_a1) (fun x5 => Option.bind (g_ref02_Moved x5 r4.1) (fun r6 => Option.bind (getI ([] ++ x0_s.Boards) x1_a1) (fun x7 => Option.bind (g_ref02_Moved x5 x2_a2) (fun r8 => Option.bind (g_sight_Many (GSightStreet.mk x0_s.Length x0_s.Width x0_s.Eye x0_s.Light (List.set ([] ++ x0_s.Boards) (Int.toNat x1_a1) r6) x0_s.Blocks) x1_a1) (fun r9 => Option.bind (g_sight_Many (GSightStreet.mk x0_s.Length x0_s.Width x0_s.Eye x0_s.Light (List.set ([] ++ x0_s.Boards) (Int.toNat x1_a1) r8) x0_s.Blocks) x1_a1) (fun r10 => cond (r9.2.2 == 0) (cond (r10.2.2 == 0) (cond (r9.1 == r4.2.1) (cond (decide (r10.1 < r4.2.1)) (some true) (cond (r10.1 == r4.2.1) (cond (decide (x2_a2 ≥ r4.1)) (some true) (some false)) (some false))) (some false)) (some false)) (some false)))))))) none) none))))))) (some true))) (some true))) (some true))
theorem g_law02_SightElsewhere_ok (x0_s : GSightStreet) (x1_a1 : Int) (x2_a2 : Int) (R : Bool) (h : g_law02_SightElsewhere x0_s x1_a1 x2_a2 = some R) : VPure Tryz.prog G0 9 [.agg (cGSightStreet x0_s), .lit (.int .i64 x1_a1), .lit (.int .i64 x2_a2)] (.tree (.lit (.bool R))) := by
 refine VPure.runR mixed Tryz.call9 Tryz.func9 rfl (by simp [Tryz.ntmps9]; kernel_rfl) ?_
 obtain ⟨KF, h, kF, kN⟩ := fun_intro h
 simp only [g_law02_SightElsewhere] at h
 rcases o12 : (g_law02_short x0_s) with _ | r11
 ·simp only [o12, hs] at h
  exact absurd h kN
 simp only [o12, hs] at h
 simp only [vz, tyf, nm, seval]
 refine ktree (args0 := [.agg (cGSightStreet x0_s)]) (by first | (simp only [nrm, tynrm] <;> rfl) | rfl) (by simp only [tre, tytre, Bool.and_self]) (g_law02_short_ok _ _ o12) ?_
 refine fin_cut (fun tm => tm 1 = .lit (.int .i64 x1_a1) ∧ tm 2 = .lit (.int .i64 x2_a2) ∧ tm 3 = .ptr 0 0 ∧ tm 19 = .lit (.bool r11) ∧ True) (by refine ⟨?_, ?_, ?_, ?_, trivial⟩ <;> first | (simp only [ua, nm, seval] <;> rfl) | rfl) ?_
 rintro tm ⟨e13, e14, e15, e16, _⟩
 cases d17 : (r11)
 ·simp only [d17, hs] at h
  simp only [vz, tyf, e13, e14, e15, e16, d17, nm, seval]
  refine ktree0 g_law02_known_ok ?_
  try simp only [vz, tyf, e13, e14, e15, e16, d17, nm, seval]
  obtain rfl := kF _ h
  exact opd_bool Tryz.results9 rfl
 simp only [d17, hs] at h
 rcases o19 : (g_ref02_Street x0_s) with _ | r18
 ·simp only [o19, hs] at h
  exact absurd h kN
 simp only [o19, hs] at h
 simp only [vz, tyf, e13, e14, e15, e16, d17, nm, seval]
 refine ktree (args0 := [.agg (cGSightStreet x0_s)]) (by first | (simp only [nrm, tynrm] <;> rfl) | rfl) (by simp only [tre, tytre, Bool.and_self]) (g_ref02_Street_ok _ _ o19) ?_
 refine fin_cut (fun tm => tm 1 = .lit (.int .i64 x1_a1) ∧ tm 2 = .lit (.int .i64 x2_a2) ∧ tm 3 = .ptr 0 0 ∧ tm 21 = .lit (.bool false) ∧ tm 23 = .lit (.bool r18) ∧ True) (by refine ⟨e13, e14, e15, ?_, ?_, trivial⟩ <;> first | (simp only [ua, e13, e14, e15, e16, d17, nm, seval] <;> rfl) | rfl) ?_
 rintro tm ⟨e20, e21, e22, e23, e24, _⟩
 cases d25 : (r18)
 ·simp only [d25, hs] at h
  simp only [vz, tyf, d17, e20, e21, e22, e23, e24, d25, nm, seval]
  refine ktree0 g_law02_known_ok ?_
  try simp only [vz, tyf, d17, e20, e21, e22, e23, e24, d25, nm, seval]
  obtain rfl := kF _ h
  exact opd_bool Tryz.results9 rfl
 simp only [d25, hs] at h
 rcases o27 : (g_ref02_Board x0_s x1_a1) with _ | r26
 ·simp only [o27, hs] at h
  exact absurd h kN
 simp only [o27, hs] at h
 simp only [vz, tyf, d17, e20, e21, e22, e23, e24, d25, nm, seval]
 refine ktree (args0 := [.agg (cGSightStreet x0_s), .lit (.int .i64 x1_a1)]) (by first | (simp only [nrm, tynrm] <;> rfl) | rfl) (by simp only [tre, tytre, Bool.and_self]) (g_ref02_Board_ok _ _ _ o27) ?_
 refine fin_cut (fun tm => tm 1 = .lit (.int .i64 x1_a1) ∧ tm 2 = .lit (.int .i64 x2_a2) ∧ tm 3 = .ptr 0 0 ∧ tm 26 = .lit (.bool false) ∧ tm 29 = .lit (.bool r26) ∧ True) (by refine ⟨e20, e21, e22, ?_, ?_, trivial⟩ <;> first | (simp only [ua, d17, e20, e21, e22, e23, e24, d25, nm, seval] <;> rfl) | rfl) ?_
 rintro tm ⟨e28, e29, e30, e31, e32, _⟩
 cases d33 : (r26)
 ·simp only [d33, hs] at h
  simp only [vz, tyf, d17, d25, e28, e29, e30, e31, e32, d33, nm, seval]
  refine ktree0 g_law02_known_ok ?_
  try simp only [vz, tyf, d17, d25, e28, e29, e30, e31, e32, d33, nm, seval]
  obtain rfl := kF _ h
  exact opd_bool Tryz.results9 rfl
 simp only [d33, hs] at h
 cases d34 : (decide (x2_a2 < 0))
 ·simp only [d34, hs] at h
  cases d35 : (decide (x2_a2 > x0_s.Length))
  ·simp only [d35, hs] at h
   rcases o37 : (g_sight_Hang x0_s x1_a1) with _ | r36
   ·simp only [o37, hs] at h
    exact absurd h kN
   simp only [o37, hs] at h
   simp only [vz, tyf, d17, d25, e28, e29, e30, e31, e32, d33, d34, d35, nm, seval]
   refine ktree (args0 := [.agg (cGSightStreet x0_s), .lit (.int .i64 x1_a1)]) (by first | (simp only [nrm, tynrm] <;> rfl) | rfl) (by simp only [tre, tytre, Bool.and_self]) (g_sight_Hang_ok _ _ _ o37) ?_
   refine fin_cut (fun tm => tm 1 = .lit (.int .i64 x1_a1) ∧ tm 2 = .lit (.int .i64 x2_a2) ∧ tm 3 = .ptr 0 0 ∧ tm 46 = .tup [.lit (.int .i64 r36.1), .lit (.int .i64 r36.2.1), .lit (.int .i64 r36.2.2)] ∧ True) (by refine ⟨e28, e29, e30, ?_, trivial⟩ <;> first | (simp only [ua, d17, d25, e28, e29, e30, e31, e32, d33, d34, d35, nm, seval] <;> rfl) | rfl) ?_
   rintro tm ⟨e38, e39, e40, e41, _⟩
   cases d42 : (r36.2.2 != 0)
   ·simp only [d42, hs] at h
    cases d43 : (decide (r36.1 < 0))
    ·simp only [d43, hs] at h
     have b44 := And.intro d17 (And.intro d25 (And.intro d33 (And.intro d34 (And.intro d35 (And.intro d42 d43)))))
     cases d45 : (decide (r36.1 > x0_s.Length))
     ·simp only [d45, hs] at h
      simp only [vz, tyf, b44, e38, e39, e40, e41, d45, nm, seval]
      refine cwp_drawTF (fun tm => tm 1 = .lit (.int .i64 x1_a1) ∧ tm 2 = .lit (.int .i64 x2_a2) ∧ tm 3 = .ptr 0 0 ∧ tm 7 = .lit (.int .i64 r36.1) ∧ tm 8 = .lit (.int .i64 r36.2.1) ∧ True) (by refine ⟨e38, e39, e40, ?_, ?_, trivial⟩ <;> first | (simp only [ua, b44, e38, e39, e40, e41, d45, nm, seval] <;> rfl) | rfl) ?_
      rintro tm ⟨e46, e47, e48, e49, e50, _⟩
      simp only [vz, tyf, b44, d45, e46, e47, e48, e49, e50, nm, seval]
      refine drawK_nil ⟨?_, ?_⟩
      ·simp only [traceR_cons, traceR_nil, hitK_quiet, hitK_nil, and_true, true_and]
       repeat' (first | exact trivial | refine And.intro ?_ ?_ | rw [hitK_quiet] | rw [hitK_cons] | exact Or.inl (by decide +kernel) | exact Or.inl (by dsimp only; decide +kernel) | (refine Or.inr ⟨?_, ?_⟩ <;> simp; done) | (refine Or.inr ⟨?_, ?_⟩ <;> simp <;> omega) | (refine Or.inr ⟨?_, ?_⟩ <;> simp [VEff.wr] <;> omega))
      cases g51 : (neB x0_s.Boards)
      ·simp only [g51, hs] at h
       exact absurd h kN
      simp only [g51, hs] at h
      cases g52 : (roomOk 32 (List.length ([] ++ x0_s.Boards)))
      ·simp only [g52, hs] at h
       exact absurd h kN
      simp only [g52, hs] at h
      simp only [vz, tyf, b44, d45, e46, e47, e48, e49, e50, g51, g52, nm, seval]
      refine k_appNS (w := 2) (enc := cGSightBoard) (ys := x0_s.Boards) (fun _ => rfl) lf24 ao24 Tryz.underlying24 g51 g52 ?_
      simp only [vz, tyf, b44, d45, e46, e47, e48, e49, e50, g51, g52, nm, seval]
      refine cwp_drawTF (fun tm => tm 1 = .lit (.int .i64 x1_a1) ∧ tm 2 = .lit (.int .i64 x2_a2) ∧ tm 3 = .ptr 0 0 ∧ tm 7 = .lit (.int .i64 r36.1) ∧ tm 8 = .lit (.int .i64 r36.2.1) ∧ tm 10 = .ptr 50 0 ∧ tm 11 = .ptr 51 0 ∧ True) (by refine ⟨e46, e47, e48, e49, e50, ?_, ?_, trivial⟩ <;> first | (simp only [ua, b44, d45, e46, e47, e48, e49, e50, nm, seval] <;> rfl) | rfl) ?_
      rintro tm ⟨e53, e54, e55, e56, e57, e58, e59, _⟩
      rcases o61 : (getI x0_s.Boards x1_a1) with _ | x60
      ·simp only [o61, hs] at h
       exact absurd h kN
      simp only [o61, hs] at h
      rcases o63 : (g_ref02_Moved x60 r36.1) with _ | r62
      ·simp only [o63, hs] at h
       exact absurd h kN
      simp only [o63, hs] at h
      simp only [vz, tyf, b44, d45, g51, g52, e53, e54, e55, e56, e57, e58, e59, (ix24 o61), nm, seval]
      refine dktree (args0 := [.agg (cGSightBoard x60), .lit (.int .i64 r36.1)]) (by first | (simp only [nrm, tynrm] <;> rfl) | rfl) (by simp only [tre, tytre, Bool.and_self]) (g_ref02_Moved_ok _ _ _ o63) ?_
      refine fin_cut (fun tm => tm 1 = .lit (.int .i64 x1_a1) ∧ tm 2 = .lit (.int .i64 x2_a2) ∧ tm 3 = .ptr 0 0 ∧ tm 7 = .lit (.int .i64 r36.1) ∧ tm 8 = .lit (.int .i64 r36.2.1) ∧ tm 10 = .ptr 50 0 ∧ tm 11 = .ptr 51 0 ∧ tm 69 = .ref 56 0 (List.length ([] ++ x0_s.Boards)) 2 (List.length ([] ++ x0_s.Boards)) ∧ tm 70 = .lit (.int .i64 x1_a1) ∧ tm 77 = .agg (cGSightBoard r62) ∧ True) (by refine ⟨e53, e54, e55, e56, e57, e58, e59, ?_, ?_, ?_, trivial⟩ <;> first | (simp only [ua, b44, d45, e53, e54, e55, e56, e57, e58, e59, nm, seval] <;> rfl) | rfl) ?_
      rintro tm ⟨e64, e65, e66, e67, e68, e69, e70, e71, e72, e73, _⟩
      rcases o75 : (getI ([] ++ x0_s.Boards) x1_a1) with _ | x74
      ·simp only [o75, hs] at h
       exact absurd h kN
      simp only [o75, hs] at h
      have w76 := setA (w := 2) (enc := cGSightBoard) (fun _ => rfl) o75
      have w77 := setB (w := 2) (enc := cGSightBoard) r62 (fun _ => rfl) o75
      simp only [vz, tyf, nm, seval] at w77
      have w78 := setC (w := 2) (enc := cGSightBoard) ([] ++ x0_s.Boards) (Int.toNat x1_a1) r62 (fun _ => rfl)
      simp only [vz, tyf, b44, d45, g51, g52, (ix24 o61), e64, e65, e66, e67, e68, e69, e70, e71, e72, e73, (ixo24 o75), w76, w77, w78, nm, seval]
      refine drawK_nil ⟨?_, ?_⟩
      ·simp only [traceR_cons, traceR_nil, hitK_quiet, hitK_nil, and_true, true_and]
       repeat' (first | exact trivial | refine And.intro ?_ ?_ | rw [hitK_quiet] | rw [hitK_cons] | exact Or.inl (by decide +kernel) | exact Or.inl (by dsimp only; decide +kernel) | (refine Or.inr ⟨?_, ?_⟩ <;> simp; done) | (refine Or.inr ⟨?_, ?_⟩ <;> simp <;> omega) | (refine Or.inr ⟨?_, ?_⟩ <;> simp [VEff.wr] <;> omega))
      simp only [vz, tyf, b44, d45, g51, g52, (ix24 o61), e64, e65, e66, e67, e68, e69, e70, e71, e72, e73, (ixo24 o75), w76, w77, w78, nm, seval]
      refine k_appNS (w := 2) (enc := cGSightBoard) (ys := x0_s.Boards) (fun _ => rfl) lf24 ao24 Tryz.underlying24 g51 g52 ?_
      simp only [vz, tyf, b44, d45, g51, g52, (ix24 o61), e64, e65, e66, e67, e68, e69, e70, e71, e72, e73, (ixo24 o75), w76, w77, w78, nm, seval]
      refine cwp_drawTF (fun tm => tm 1 = .lit (.int .i64 x1_a1) ∧ tm 2 = .lit (.int .i64 x2_a2) ∧ tm 3 = .ptr 0 0 ∧ tm 7 = .lit (.int .i64 r36.1) ∧ tm 8 = .lit (.int .i64 r36.2.1) ∧ tm 10 = .ptr 50 0 ∧ tm 11 = .ptr 51 0 ∧ True) (by refine ⟨e64, e65, e66, e67, e68, e69, e70, trivial⟩ <;> first | (simp only [ua, b44, d45, e64, e65, e66, e67, e68, e69, e70, e71, e72, e73, w76, w77, w78, nm, seval] <;> rfl) | rfl) ?_
      rintro tm ⟨e79, e80, e81, e82, e83, e84, e85, _⟩
      have b86 := And.intro b44 (And.intro d45 (And.intro g51 (And.intro g52 (And.intro w76 (And.intro w77 w78)))))
      rcases o88 : (g_ref02_Moved x60 x2_a2) with _ | r87
      ·simp only [o88, hs] at h
       exact absurd h kN
      simp only [o88, hs] at h
      simp only [vz, tyf, b86, (ix24 o61), (ixo24 o75), e79, e80, e81, e82, e83, e84, e85, nm, seval]
      refine dktree (args0 := [.agg (cGSightBoard x60), .lit (.int .i64 x2_a2)]) (by first | (simp only [nrm, tynrm] <;> rfl) | rfl) (by simp only [tre, tytre, Bool.and_self]) (g_ref02_Moved_ok _ _ _ o88) ?_
      refine fin_cut (fun tm => tm 1 = .lit (.int .i64 x1_a1) ∧ tm 2 = .lit (.int .i64 x2_a2) ∧ tm 7 = .lit (.int .i64 r36.1) ∧ tm 8 = .lit (.int .i64 r36.2.1) ∧ tm 10 = .ptr 50 0 ∧ tm 11 = .ptr 51 0 ∧ tm 84 = .ref 73 0 (List.length ([] ++ x0_s.Boards)) 2 (List.length ([] ++ x0_s.Boards)) ∧ tm 85 = .lit (.int .i64 x1_a1) ∧ tm 92 = .agg (cGSightBoard r87) ∧ True) (by refine ⟨e79, e80, e82, e83, e84, e85, ?_, ?_, ?_, trivial⟩ <;> first | (simp only [ua, b86, e79, e80, e81, e82, e83, e84, e85, nm, seval] <;> rfl) | rfl) ?_
      rintro tm ⟨e89, e90, e91, e92, e93, e94, e95, e96, e97, _⟩
      have w98 := setA (w := 2) (enc := cGSightBoard) (fun _ => rfl) o75
      have w99 := setB (w := 2) (enc := cGSightBoard) r87 (fun _ => rfl) o75
      simp only [vz, tyf, nm, seval] at w99
      have w100 := setC (w := 2) (enc := cGSightBoard) ([] ++ x0_s.Boards) (Int.toNat x1_a1) r87 (fun _ => rfl)
      simp only [vz, tyf, b86, (ix24 o61), (ixo24 o75), e89, e90, e91, e92, e93, e94, e95, e96, e97, w98, w99, w100, nm, seval]
      refine drawK_nil ⟨?_, ?_⟩
      ·simp only [traceR_cons, traceR_nil, hitK_quiet, hitK_nil, and_true, true_and]
       repeat' (first | exact trivial | refine And.intro ?_ ?_ | rw [hitK_quiet] | rw [hitK_cons] | exact Or.inl (by decide +kernel) | exact Or.inl (by dsimp only; decide +kernel) | (refine Or.inr ⟨?_, ?_⟩ <;> simp; done) | (refine Or.inr ⟨?_, ?_⟩ <;> simp <;> omega) | (refine Or.inr ⟨?_, ?_⟩ <;> simp [VEff.wr] <;> omega))
      rcases o102 : (g_sight_Many (GSightStreet.mk x0_s.Length x0_s.Width x0_s.Eye x0_s.Light (List.set ([] ++ x0_s.Boards) (Int.toNat x1_a1) r62) x0_s.Blocks) x1_a1) with _ | r101
      ·simp only [o102, hs] at h
       exact absurd h kN
      simp only [o102, hs] at h
      simp only [vz, tyf, b86, (ix24 o61), (ixo24 o75), e89, e90, e91, e92, e93, e94, e95, e96, e97, w98, w99, w100, nm, seval]
      refine kseen (args0 := [.agg (cGSightStreet (GSightStreet.mk x0_s.Length x0_s.Width x0_s.Eye x0_s.Light (List.set ([] ++ x0_s.Boards) (Int.toNat x1_a1) r62) x0_s.Blocks)), .lit (.int .i64 x1_a1)]) (by simp only [List.map_cons, List.map_nil, showV_ref, updH_apply, without_apply, cr, tyf, nrm, tynrm, b86, (ix24 o61), (ixo24 o75), e89, e90, e91, e92, e93, e94, e95, e96, e97, w98, w99, w100, nm, seval] <;> rfl) (by simp only [List.map_cons, List.map_nil, showV_ref, updH_apply, without_apply, cr, tyf, nrm, tynrm, b86, (ix24 o61), (ixo24 o75), e89, e90, e91, e92, e93, e94, e95, e96, e97, w98, w99, w100, nm, seval]; simp only [tre, tytre, Bool.and_self]) (g_sight_Many_ok _ _ _ o102) (by first | rfl | simp only [VV.flat, flatL, Bool.and_self]) ?_
      refine fin_cut (fun tm => tm 1 = .lit (.int .i64 x1_a1) ∧ tm 2 = .lit (.int .i64 x2_a2) ∧ tm 7 = .lit (.int .i64 r36.1) ∧ tm 8 = .lit (.int .i64 r36.2.1) ∧ tm 11 = .ptr 51 0 ∧ tm 97 = .tup [.lit (.int .i64 r101.1), .lit (.int .i64 r101.2.1), .lit (.int .i64 r101.2.2)] ∧ True) (by refine ⟨e89, e90, e91, e92, e94, ?_, trivial⟩ <;> first | (simp only [ua, b86, e89, e90, e91, e92, e93, e94, e95, e96, e97, w98, w99, w100, nm, seval] <;> rfl) | rfl) ?_
      rintro tm ⟨e103, e104, e105, e106, e107, e108, _⟩
      rcases o110 : (g_sight_Many (GSightStreet.mk x0_s.Length x0_s.Width x0_s.Eye x0_s.Light (List.set ([] ++ x0_s.Boards) (Int.toNat x1_a1) r87) x0_s.Blocks) x1_a1) with _ | r109
      ·simp only [o110, hs] at h
       exact absurd h kN
      simp only [o110, hs] at h
      simp only [vz, tyf, b86, (ix24 o61), (ixo24 o75), w98, w99, w100, e103, e104, e105, e106, e107, e108, nm, seval]
      refine kseen (args0 := [.agg (cGSightStreet (GSightStreet.mk x0_s.Length x0_s.Width x0_s.Eye x0_s.Light (List.set ([] ++ x0_s.Boards) (Int.toNat x1_a1) r87) x0_s.Blocks)), .lit (.int .i64 x1_a1)]) (by simp only [List.map_cons, List.map_nil, showV_ref, updH_apply, without_apply, cr, tyf, nrm, tynrm, b86, (ix24 o61), (ixo24 o75), w98, w99, w100, e103, e104, e105, e106, e107, e108, nm, seval] <;> rfl) (by simp only [List.map_cons, List.map_nil, showV_ref, updH_apply, without_apply, cr, tyf, nrm, tynrm, b86, (ix24 o61), (ixo24 o75), w98, w99, w100, e103, e104, e105, e106, e107, e108, nm, seval]; simp only [tre, tytre, Bool.and_self]) (g_sight_Many_ok _ _ _ o110) (by first | rfl | simp only [VV.flat, flatL, Bool.and_self]) ?_
      refine fin_cut (fun tm => tm 2 = .lit (.int .i64 x2_a2) ∧ tm 7 = .lit (.int .i64 r36.1) ∧ tm 8 = .lit (.int .i64 r36.2.1) ∧ tm 12 = .lit (.int .i64 r101.1) ∧ tm 14 = .lit (.int .i64 r101.2.2) ∧ tm 104 = .tup [.lit (.int .i64 r109.1), .lit (.int .i64 r109.2.1), .lit (.int .i64 r109.2.2)] ∧ True) (by refine ⟨e104, e105, e106, ?_, ?_, ?_, trivial⟩ <;> first | (simp only [ua, b86, w98, w99, w100, e103, e104, e105, e106, e107, e108, nm, seval] <;> rfl) | rfl) ?_
      rintro tm ⟨e111, e112, e113, e114, e115, e116, _⟩
      cases d117 : (r101.2.2 == 0)
      ·simp only [d117, hs] at h
       try simp only [vz, tyf, b86, (ix24 o61), (ixo24 o75), w98, w99, w100, e111, e112, e113, e114, e115, e116, d117, nm, seval]
       obtain rfl := kF _ h
       exact opd_bool Tryz.results9 rfl
      simp only [d117, hs] at h
      cases d118 : (r109.2.2 == 0)
      ·simp only [d118, hs] at h
       try simp only [vz, tyf, b86, (ix24 o61), (ixo24 o75), w98, w99, w100, e111, e112, e113, e114, e115, e116, d117, d118, nm, seval]
       obtain rfl := kF _ h
       exact opd_bool Tryz.results9 rfl
      simp only [d118, hs] at h
      cases d119 : (r101.1 == r36.2.1)
      ·simp only [d119, hs] at h
       have b120 := And.intro b86 (And.intro w98 (And.intro w99 (And.intro w100 (And.intro d117 (And.intro d118 d119)))))
       try simp only [vz, tyf, b120, (ix24 o61), (ixo24 o75), e111, e112, e113, e114, e115, e116, nm, seval]
       obtain rfl := kF _ h
       exact opd_bool Tryz.results9 rfl
      simp only [d119, hs] at h
      have b121 := And.intro b86 (And.intro w98 (And.intro w99 (And.intro w100 (And.intro d117 (And.intro d118 d119)))))
      cases d122 : (decide (r109.1 < r36.2.1))
      ·simp only [d122, hs] at h
       cases d123 : (r109.1 == r36.2.1)
       ·simp only [d123, hs] at h
        try simp only [vz, tyf, b121, (ix24 o61), (ixo24 o75), e111, e112, e113, e114, e115, e116, d122, d123, nm, seval]
        obtain rfl := kF _ h
        exact opd_bool Tryz.results9 rfl
       simp only [d123, hs] at h
       cases d124 : (decide (x2_a2 ≥ r36.1))
       ·simp only [d124, hs] at h
        try simp only [vz, tyf, b121, (ix24 o61), (ixo24 o75), e111, e112, e113, e114, e115, e116, d122, d123, d124, nm, seval]
        obtain rfl := kF _ h
        exact opd_bool Tryz.results9 rfl
       simp only [d124, hs] at h
       simp only [vz, tyf, b121, (ix24 o61), (ixo24 o75), e111, e112, e113, e114, e115, e116, d122, d123, d124, nm, seval]
       refine ktree0 g_law02_known_ok ?_
       try simp only [vz, tyf, b121, (ix24 o61), (ixo24 o75), e111, e112, e113, e114, e115, e116, d122, d123, d124, nm, seval]
       obtain rfl := kF _ h
       exact opd_bool Tryz.results9 rfl
      simp only [d122, hs] at h
      simp only [vz, tyf, b121, (ix24 o61), (ixo24 o75), e111, e112, e113, e114, e115, e116, d122, nm, seval]
      refine ktree0 g_law02_known_ok ?_
      try simp only [vz, tyf, b121, (ix24 o61), (ixo24 o75), e111, e112, e113, e114, e115, e116, d122, nm, seval]
      obtain rfl := kF _ h
      exact opd_bool Tryz.results9 rfl
     simp only [d45, hs] at h
     try simp only [vz, tyf, b44, e38, e39, e40, e41, d45, nm, seval]
     obtain rfl := kF _ h
     exact opd_bool Tryz.results9 rfl
    simp only [d43, hs] at h
    have b125 := And.intro d17 (And.intro d25 (And.intro d33 (And.intro d34 (And.intro d35 (And.intro d42 d43)))))
    try simp only [vz, tyf, b125, e38, e39, e40, e41, nm, seval]
    obtain rfl := kF _ h
    exact opd_bool Tryz.results9 rfl
   simp only [d42, hs] at h
   try simp only [vz, tyf, d17, d25, d33, d34, d35, e38, e39, e40, e41, d42, nm, seval]
   obtain rfl := kF _ h
   exact opd_bool Tryz.results9 rfl
  simp only [d35, hs] at h
  simp only [vz, tyf, d17, d25, e28, e29, e30, e31, e32, d33, d34, d35, nm, seval]
  refine ktree0 g_law02_known_ok ?_
  try simp only [vz, tyf, d17, d25, e28, e29, e30, e31, e32, d33, d34, d35, nm, seval]
  obtain rfl := kF _ h
  exact opd_bool Tryz.results9 rfl
 simp only [d34, hs] at h
 simp only [vz, tyf, d17, d25, e28, e29, e30, e31, e32, d33, d34, nm, seval]
 refine ktree0 g_law02_known_ok ?_
 try simp only [vz, tyf, d17, d25, e28, e29, e30, e31, e32, d33, d34, nm, seval]
 obtain rfl := kF _ h
 exact opd_bool Tryz.results9 rfl
end Go.V
end
section
namespace Go.V
open Go
abbrev elseS (s : GSightStreet) (n : Int) (b : GSightBoard) (c : Int) : GSightStreet := ⟨s.Length, s.Width, s.Eye, s.Light, List.set s.Boards n.toNat (hangB b c), s.Blocks⟩
theorem Many_else {s : GSightStreet} {n c : Int} {b : GSightBoard} (h : FineS s) (h1 : streetB s = true) (h2 : numB s n = true) (hb : getI s.Boards n = some b) (hl : 1 ≤ s.Length ∧ s.Length ≤ 40) (hw : 1 ≤ s.Width ∧ s.Width ≤ 12) (hg : ∀ p ∈ allP s, Good s b p) (h0 : 0 ≤ c) (hc : c ≤ s.Length) :
  ∃ x, g_sight_Many (elseS s n b c) n = some (hangN s b c, x, 0) := by
 have hbm := getI_mem hb
 have hlt := getI_lt hb
 obtain ⟨f1, f2, f3⟩ := h
 have hmem : ∀ b' ∈ List.set s.Boards n.toNat (hangB b c), b' ∈ s.Boards ∨ b' = hangB b c := fun b' hb' => List.mem_or_eq_of_mem_set hb'
 have F : FineS (elseS s n b c) := by
  refine ⟨?_, fun b' hb' => ?_, f3⟩
  ·have := lenOk_lt f1
   exact lenOk_of (by rw [List.length_set]; exact this)
  ·rcases hmem b' hb' with h | h
   ·exact f2 b' h
   ·rw [h]; exact f2 b hbm
 have S : streetB (elseS s n b c) = true := by
  have hs := h1
  simp only [streetB, boardsB, Bool.and_eq_true, List.all_eq_true] at hs ⊢
  obtain ⟨a1, a2, a3, a4, ⟨a5, a6⟩, a7⟩ := hs
  refine ⟨a1, a2, a3, a4, ⟨by rw [List.length_set]; exact a5, fun b' hb' => ?_⟩, a7⟩
  rcases hmem b' hb' with h | h
  ·exact a6 b' h
  ·rw [h]
   have := a6 b hbm
   simp only [boardB, Bool.and_eq_true] at this ⊢
   exact ⟨inB_iff.2 ⟨h0, hc⟩, this.2⟩
 have Nn : numB (elseS s n b c) n = true := by
  simp only [numB, List.length_set] at h2 ⊢
  exact h2
 have G : getI (elseS s n b c).Boards n = some (hangB b c) := by
  unfold getI
  rw [if_pos hlt.1]
  exact List.getElem?_set_self (by omega)
 have hg' : ∀ p ∈ allP (elseS s n b c), Good (elseS s n b c) (hangB b c) p := by
  intro p hp
  have h := good_at (c := c) (hg p hp) h0 (by omega)
  exact ⟨h.el, h.em, h.eh, h.ll, h.lm, h.lh, h.a0, h.a1, h.n1, h.n5, h.lets, h.last, h.p0, h.p1, h.q0, h.q1, h.nb, h.blks⟩
 have hM := Many_eq F S Nn G hl hw hg'
 have e : ((allP (elseS s n b c)).filter fun p => seenI (elseS s n b c) (hangB b c) p == 3) = (allP s).filter (sureB s (hangB b c)) := by
  show ((allP s).filter fun p => seenI s (hangB b c) p == 3) = _
  congr 1
  funext p
  exact seen3 p
 rw [e] at hM
 exact ⟨_, hM⟩
theorem SightElsewhere_true (s : GSightStreet) (n a : Int) (h : FineS s) : g_law02_SightElsewhere s n a = some true := by
 obtain ⟨bs, hb⟩ := short_some s h
 unfold g_law02_SightElsewhere
 rw [hb, refStreet_eq s h, refBoard_eq]
 simp only [Option.bind_some]
 cases bs with
 | false => rfl
 | true =>
 cases h1 : streetB s with
 | false => rfl
 | true =>
 cases h2 : numB s n with
 | false =>
  have h2' := h2
  simp only [numB] at h2'
  simp only [h2', cond_true, cond_false]
 | true =>
 have h2' := h2
 simp only [numB] at h2'
 simp only [h2', cond_true]
 obtain ⟨b, b1, hl, hw, hg⟩ := all_good h1 h2
 by_cases ha0 : a < 0
 ·rw [decide_eq_true ha0]; rfl
 by_cases ha1 : a > s.Length
 ·rw [decide_eq_true ha1]; cases decide (a < 0) <;> rfl
 rw [Hang_eq h h1 h2 b1 hl hw hg, decide_eq_false ha0, decide_eq_false ha1]
 obtain ⟨g1, g2, g3⟩ := rF_best (hangN s b) (s.Length + 1).toNat 0 0 (-1)
 have hn0 : ∀ c, 0 ≤ hangN s b c := fun c => by unfold hangN; omega
 generalize rF (hangN s b) (s.Length + 1).toNat 0 0 (-1) = R at g1 g2 g3 ⊢
 have hk : ((s.Length + 1).toNat : Int) = s.Length + 1 := by omega
 rw [hk] at g1 g3
 obtain ⟨q1, q2, q3, q4, q5⟩ : 0 ≤ R.1 ∧ R.1 < 0 + (s.Length + 1) ∧ hangN s b R.1 = R.2 ∧ -1 < R.2 ∧ ∀ i, 0 ≤ i → i < R.1 → hangN s b i < R.2 := by
  rcases g3 with e | e
  ·have := g1 0 (by rw [e]; have := hn0 0; show (-1 : Int) < _; omega)
   omega
  ·exact e
 obtain ⟨x1, e1⟩ := Many_else h h1 h2 b1 hl hw hg q1 (show R.1 ≤ s.Length by omega)
 obtain ⟨x2, e2⟩ := Many_else h h1 h2 b1 hl hw hg (show 0 ≤ a by omega) (show a ≤ s.Length by omega)
 have hbl : 1 ≤ s.Boards.length ∧ s.Boards.length ≤ 3 := by
  have hs := h1
  simp only [streetB, boardsB, Bool.and_eq_true, inB_iff] at hs
  obtain ⟨_, _, _, _, ⟨⟨a5, a6⟩, _⟩, _⟩ := hs
  omega
 have hne : neB s.Boards = true := by
  cases hB : s.Boards with
  | nil => rw [hB] at hbl; simp at hbl
  | cons _ _ => rfl
 have hro : roomOk 32 s.Boards.length = true := room_small _ (by omega) (by omega)
 simp only [Option.bind_some, cond_false, cond_true, bne_self_eq_false, beq_self_eq_true, decide_eq_false (show ¬ (R.1 < 0) by omega), decide_eq_false (show ¬ (R.1 > s.Length) by omega), hne, List.nil_append, hro, b1, g_ref02_Moved, e1, e2, q3]
 by_cases hlt : hangN s b a < R.2
 ·rw [decide_eq_true hlt]; rfl
 ·have he : hangN s b a = R.2 := by
   by_cases hgt : R.2 < hangN s b a
   ·have := g1 a hgt; omega
   ·omega
  have hge : a ≥ R.1 := by
   by_cases hh : a < R.1
   ·have := q5 a (by omega) hh; omega
   ·omega
  rw [decide_eq_false hlt, he, beq_self_eq_true, decide_eq_true hge]
  rfl
end Go.V
end
