/- Part of a proof: a logic of values by content, lifted functions, what follows. -/
import Derived.Test.YtdhkepdioiicfaaGreatDoorBbm
import Derived.Test.YtdhkepdioiicfaaGreatDoorBbn
import Derived.Test.YtdhkepdioiicfaaGreatDoorBay
import Derived.Test.YtdhkepdioiicfaaGreatDoorBbc
import Derived.Test.YtdhkepdioiicfaaGreatDoorProg
set_option linter.all false
set_option maxRecDepth 4000
set_option maxHeartbeats 4000000
section
namespace Go.V
open Go
def bothB (s : GSightStreet) (b b' : GSightBoard) (p : GSightPlace) : Bool := sureB s b' p && sureB s b p
section
variable {s : GSightStreet} {b b' : GSightBoard}
def Told (s : GSightStreet) (b : GSightBoard) (r : List (GSightPlace × Int)) (p : GSightPlace) : Prop := mapGet q34 0 r p = seenI s b p
theorem bt_l3 {r r' : List (GSightPlace × Int)} (a : Int) : ∀ (k : Nat) (c o0 o1 o2 o3 o : Int), (∀ p ∈ rowP a k c, Told s b r p ∧ Told s b' r' p) → 0 ≤ o → o + k ≤ 1000 → g_sight_Both_l3 r r' a k c o0 o1 o2 o3 o = some (.go (o0, o1, o2, o3, o + ((rowP a k c).filter (bothB s b b')).length))
 | 0, c, o0, o1, o2, o3, o, h, h0, h1 => by simp [g_sight_Both_l3, rowP]
 | k + 1, c, o0, o1, o2, o3, o, h, h0, h1 => by
  have ih := fun o' => bt_l3 a k (c + 1) o0 o1 o2 o3 o' (fun p hp => h p (List.mem_cons_of_mem _ hp))
  obtain ⟨e1, e2⟩ := h _ (List.mem_cons_self ..)
  unfold Told at e1 e2
  simp only [g_sight_Both_l3, e1, e2, seen3, rowP, List.filter_cons]
  have hb : bothB s b b' ⟨a, c + 1⟩ = (sureB s b' ⟨a, c + 1⟩ && sureB s b ⟨a, c + 1⟩) := rfl
  rw [hb]
  cases sureB s b ⟨a, c + 1⟩ with
  | false =>
   simp only [cond_false, Bool.and_false, Bool.false_eq_true, if_false]
   exact ih o h0 (by omega)
  | true =>
   cases sureB s b' ⟨a, c + 1⟩ with
   | false =>
    simp only [cond_true, cond_false, Bool.and_true, Bool.false_eq_true, if_false]
    exact ih o h0 (by omega)
   | true =>
    simp only [cond_true, Bool.and_true, if_true, List.length_cons]
    rw [wrap_eq (by omega) (by omega), ih (o + 1) (by omega) (by omega)]
    have : o + 1 + (((rowP a k (c + 1)).filter (bothB s b b')).length : Int) = o + ((((rowP a k (c + 1)).filter (bothB s b b')).length + 1 : Nat) : Int) := by omega
    rw [this]
theorem bt_l2 (hw : s.Width ≤ 12) (hw0 : 0 ≤ s.Width) {r r' : List (GSightPlace × Int)} : ∀ (k : Nat) (c o0 o1 o2 o3 o : Int), (∀ p ∈ gridP s.Width.toNat k c, Told s b r p ∧ Told s b' r' p) → 0 ≤ o → o + k * 12 ≤ 1000 →
  g_sight_Both_l2 s r r' k c o0 o1 o2 o3 o = some (.go (o0, o1, o2, o3, o + ((gridP s.Width.toNat k c).filter (bothB s b b')).length))
 | 0, c, o0, o1, o2, o3, o, h, h0, h1 => by simp [g_sight_Both_l2, gridP]
 | k + 1, c, o0, o1, o2, o3, o, h, h0, h1 => by
  have hl := List.length_filter_le (bothB s b b') (rowP c s.Width.toNat 0)
  rw [rowP_len] at hl
  simp only [g_sight_Both_l2, Int.sub_zero]
  rw [bt_l3 c s.Width.toNat 0 o0 o1 o2 o3 o (fun p hp => h p (List.mem_append.2 (.inl hp))) h0 (by omega), lbind_go]
  simp only []
  rw [bt_l2 hw hw0 k (c + 1) o0 o1 o2 o3 (o + ((rowP c s.Width.toNat 0).filter (bothB s b b')).length) (fun p hp => h p (List.mem_append.2 (.inr hp))) (by omega) (by omega), gridP, List.filter_append, List.length_append]
  rw [Int.natCast_add, ← Int.add_assoc]
theorem bt_l1 (hl : 1 ≤ s.Length ∧ s.Length ≤ 40) (hw : 1 ≤ s.Width ∧ s.Width ≤ 12) {r r' : List (GSightPlace × Int)} (hr : ∀ p ∈ allP s, Told s b r p ∧ Told s b' r' p) (a : Int) : ∀ (k : Nat) (c o0 o1 o2 o3 : Int), (∀ p ∈ rowP a k c, Told s b r p ∧ Told s b' r' p) →
  g_sight_Both_l1 s r r' a k c o0 o1 o2 o3 = match (rowP a k c).filter (bothB s b b') with | [] => some (.go (o0, o1, o2, o3)) | x :: _ => some (.brk 9 (x.Along, x.Across, (((allP s).filter (bothB s b b')).length : Int), 0))
 | 0, c, o0, o1, o2, o3, h => by simp [g_sight_Both_l1, rowP]
 | k + 1, c, o0, o1, o2, o3, h => by
  have ih := bt_l1 hl hw hr a k (c + 1) o0 o1 o2 o3 (fun p hp => h p (List.mem_cons_of_mem _ hp))
  obtain ⟨e1, e2⟩ := h _ (List.mem_cons_self ..)
  unfold Told at e1 e2
  have hc := bt_l2 hw.2 (by omega) (s.Length + 1).toNat 0 o0 o1 o2 o3 0 hr (Int.le_refl 0) (by omega)
  simp only [g_sight_Both_l1, e1, e2, seen3, rowP, List.filter_cons, wrap_eq (show -9223372036854775808 ≤ s.Length + 1 by omega) (by omega), Int.sub_zero, hc, lbind_go, Int.zero_add]
  have hb : bothB s b b' ⟨a, c + 1⟩ = (sureB s b' ⟨a, c + 1⟩ && sureB s b ⟨a, c + 1⟩) := rfl
  rw [hb]
  cases sureB s b ⟨a, c + 1⟩ with
  | false =>
   simp only [cond_false, Bool.and_false, Bool.false_eq_true, if_false]
   exact ih
  | true =>
   cases sureB s b' ⟨a, c + 1⟩ with
   | false =>
    simp only [cond_true, cond_false, Bool.and_true, Bool.false_eq_true, if_false]
    exact ih
   | true => rfl
theorem bt_l0 (hl : 1 ≤ s.Length ∧ s.Length ≤ 40) (hw : 1 ≤ s.Width ∧ s.Width ≤ 12) {r r' : List (GSightPlace × Int)} (hr : ∀ p ∈ allP s, Told s b r p ∧ Told s b' r' p) : ∀ (k : Nat) (c o0 o1 o2 o3 : Int), (∀ p ∈ gridP s.Width.toNat k c, Told s b r p ∧ Told s b' r' p) →
  g_sight_Both_l0 s r r' k c o0 o1 o2 o3 = match (gridP s.Width.toNat k c).filter (bothB s b b') with | [] => some (.go (o0, o1, o2, o3)) | x :: _ => some (.brk 9 (x.Along, x.Across, (((allP s).filter (bothB s b b')).length : Int), 0))
 | 0, c, o0, o1, o2, o3, h => by simp [g_sight_Both_l0, gridP]
 | k + 1, c, o0, o1, o2, o3, h => by
  have ih := fun o0 o1 o2 o3 => bt_l0 hl hw hr k (c + 1) o0 o1 o2 o3 (fun p hp => h p (List.mem_append.2 (.inr hp)))
  simp only [g_sight_Both_l0, bnd_small (show s.Width ≤ 1000 by omega), cond_true, Int.sub_zero, gridP, List.filter_append]
  rw [bt_l1 hl hw hr c s.Width.toNat 0 o0 o1 o2 o3 (fun p hp => h p (List.mem_append.2 (.inl hp)))]
  cases (rowP c s.Width.toNat 0).filter (bothB s b b') with
  | nil => simp only [lbind_go, List.nil_append]; exact ih _ _ _ _
  | cons x t => simp only [lbind_brk, List.cons_append]
theorem Both_eq {n n' : Int} (h : FineS s) (h1 : streetB s = true) (h2 : numB s n = true) (h3 : numB s n' = true) (hb : getI s.Boards n = some b) (hb' : getI s.Boards n' = some b') (hl : 1 ≤ s.Length ∧ s.Length ≤ 40) (hw : 1 ≤ s.Width ∧ s.Width ≤ 12) (hg : ∀ p ∈ allP s, Good s b p) (hg' : ∀ p ∈ allP s, Good s b' p) (hne : (n == n') = false) :
  g_sight_Both s n n' = some (match (allP s).filter (bothB s b b') with | [] => (⟨0, 0⟩, 0, 5) | x :: t => (x, ((x :: t).length : Int), 0)) := by
 obtain ⟨r, hr, hm⟩ := readFrom_eq hl hw hg
 obtain ⟨r', hr', hm'⟩ := readFrom_eq hl hw hg'
 have ht : ∀ p ∈ allP s, Told s b r p ∧ Told s b' r' p := fun p hp => ⟨hm p hp, hm' p hp⟩
 have h2' := h2; have h3' := h3
 simp only [numB] at h2' h3'
 simp only [g_sight_Both, isStreet_eq s h, isBoard_eq, h1, h2', h3', Option.bind_some, cond_true, cond_false, hne, hb, hb', hr, hr', wrap_eq (show -9223372036854775808 ≤ s.Length + 1 by omega) (by omega), bnd_small (show s.Length + 1 ≤ 1000 by omega), Int.sub_zero]
 rw [bt_l0 hl hw ht (s.Length + 1).toNat 0 0 0 0 0 ht]
 show lbind (match (allP s).filter (bothB s b b') with | [] => _ | x :: _ => _) _ _ _ = _
 cases (allP s).filter (bothB s b b') with
 | nil => rfl
 | cons x t => rfl
end
end Go.V
end
section
namespace Go.V
open Go Go.Proofs
theorem hmix : Tryz.prog.follows .mixedOrders = true := by kernel_rfl
def kS : VV := (Go.V.VV.agg [(Go.V.VV.lit (Go.Value.int Go.IntKind.i64 (Int.ofNat 20))), (Go.V.VV.lit (Go.Value.int Go.IntKind.i64 (Int.ofNat 6))), (Go.V.VV.lit (Go.Value.int Go.IntKind.i64 (Int.ofNat 4))), (Go.V.VV.lit (Go.Value.int Go.IntKind.i64 (Int.ofNat 6))), (Go.V.VV.lit (Go.Value.int Go.IntKind.i64 (Int.ofNat 50))), (Go.V.VV.lit (Go.Value.int Go.IntKind.i64 (Int.ofNat 100))), (Go.V.VV.sl [(Go.V.VV.lit (Go.Value.int Go.IntKind.i64 (Int.ofNat 10))), (Go.V.VV.sl [(Go.V.VV.lit (Go.Value.int Go.IntKind.i64 (Int.ofNat 6))), (Go.V.VV.lit (Go.Value.int Go.IntKind.i64 (Int.ofNat 4))), (Go.V.VV.lit (Go.Value.int Go.IntKind.i64 (Int.ofNat 1))), (Go.V.VV.lit (Go.Value.int Go.IntKind.i64 (Int.ofNat 1))), (Go.V.VV.lit (Go.Value.int Go.IntKind.i64 (Int.ofNat 8))), (Go.V.VV.lit (Go.Value.int Go.IntKind.i64 (Int.ofNat 5))), (Go.V.VV.lit (Go.Value.int Go.IntKind.i64 (Int.ofNat 2))), (Go.V.VV.lit (Go.Value.int Go.IntKind.i64 (Int.ofNat 0)))] 2 Bool.false), (Go.V.VV.lit (Go.Value.int Go.IntKind.i64 (Int.ofNat 0))), (Go.V.VV.sl [(Go.V.VV.lit (Go.Value.int Go.IntKind.i64 (Int.ofNat 10))), (Go.V.VV.lit (Go.Value.int Go.IntKind.i64 (Int.ofNat 10))), (Go.V.VV.lit (Go.Value.int Go.IntKind.i64 (Int.ofNat 2))), (Go.V.VV.lit (Go.Value.int Go.IntKind.i64 (Int.ofNat 0)))] 1 Bool.false)] 2 Bool.false), (Go.V.VV.sl [(Go.V.VV.lit (Go.Value.int Go.IntKind.i64 (Int.ofNat 12))), (Go.V.VV.lit (Go.Value.int Go.IntKind.i64 (Int.ofNat 13))), (Go.V.VV.lit (Go.Value.int Go.IntKind.i64 (Int.ofNat 2))), (Go.V.VV.lit (Go.Value.int Go.IntKind.i64 (Int.ofNat 3))), (Go.V.VV.lit (Go.Value.bool Bool.true)), (Go.V.VV.lit (Go.Value.int Go.IntKind.i64 (Int.ofNat 5))), (Go.V.VV.lit (Go.Value.int Go.IntKind.i64 (Int.ofNat 6))), (Go.V.VV.lit (Go.Value.int Go.IntKind.i64 (Int.ofNat 4))), (Go.V.VV.lit (Go.Value.int Go.IntKind.i64 (Int.ofNat 5))), (Go.V.VV.lit (Go.Value.bool Bool.false))] 2 Bool.false)])
def kT : VV := (Go.V.VV.agg [(Go.V.VV.lit (Go.Value.int Go.IntKind.i64 (Int.ofNat 4))), (Go.V.VV.lit (Go.Value.int Go.IntKind.i64 (Int.ofNat 2))), (Go.V.VV.lit (Go.Value.int Go.IntKind.i64 (Int.ofNat 1))), (Go.V.VV.lit (Go.Value.int Go.IntKind.i64 (Int.ofNat 1))), (Go.V.VV.lit (Go.Value.int Go.IntKind.i64 (Int.ofNat 100))), (Go.V.VV.lit (Go.Value.int Go.IntKind.i64 (Int.ofNat 100))), (Go.V.VV.sl [(Go.V.VV.lit (Go.Value.int Go.IntKind.i64 (Int.ofNat 0))), (Go.V.VV.sl [(Go.V.VV.lit (Go.Value.int Go.IntKind.i64 (Int.ofNat 3))), (Go.V.VV.lit (Go.Value.int Go.IntKind.i64 (Int.ofNat 2))), (Go.V.VV.lit (Go.Value.int Go.IntKind.i64 (Int.ofNat 1))), (Go.V.VV.lit (Go.Value.int Go.IntKind.i64 (Int.ofNat 0)))] 1 Bool.false)] 1 Bool.false), (Go.V.VV.lit (Go.Value.slice Option.none 0 0))])
def kAt46 : VV := (Go.V.VV.agg [(Go.V.VV.lit (Go.Value.int Go.IntKind.i64 (Int.ofNat 4))), (Go.V.VV.lit (Go.Value.int Go.IntKind.i64 (Int.ofNat 6)))])
def kAt41 : VV := (Go.V.VV.agg [(Go.V.VV.lit (Go.Value.int Go.IntKind.i64 (Int.ofNat 4))), (Go.V.VV.lit (Go.Value.int Go.IntKind.i64 (Int.ofNat 1)))])
def kAt201 : VV := (Go.V.VV.agg [(Go.V.VV.lit (Go.Value.int Go.IntKind.i64 (Int.ofNat 20))), (Go.V.VV.lit (Go.Value.int Go.IntKind.i64 (Int.ofNat 1)))])
def kAt166 : VV := (Go.V.VV.agg [(Go.V.VV.lit (Go.Value.int Go.IntKind.i64 (Int.ofNat 16))), (Go.V.VV.lit (Go.Value.int Go.IntKind.i64 (Int.ofNat 6)))])
def kAt106 : VV := (Go.V.VV.agg [(Go.V.VV.lit (Go.Value.int Go.IntKind.i64 (Int.ofNat 10))), (Go.V.VV.lit (Go.Value.int Go.IntKind.i64 (Int.ofNat 6)))])
def kSeen : VV := (Go.V.VV.tup [(Go.V.VV.lit (Go.Value.int Go.IntKind.i64 (Int.ofNat 2))), (Go.V.VV.lit (Go.Value.int Go.IntKind.i64 (Int.ofNat 0)))])
def kWhy : VV := (Go.V.VV.tup [(Go.V.VV.agg [(Go.V.VV.lit (Go.Value.int Go.IntKind.i64 (Int.ofNat 3))), (Go.V.VV.lit (Go.Value.int Go.IntKind.i64 (Int.ofNat 0)))]), (Go.V.VV.lit (Go.Value.int Go.IntKind.i64 (Int.ofNat 0)))])
def kLetters : VV := (Go.V.VV.tup [(Go.V.VV.sl [(Go.V.VV.lit (Go.Value.int Go.IntKind.i64 (Int.ofNat 2))), (Go.V.VV.lit (Go.Value.int Go.IntKind.i64 (Int.ofNat 2)))] 2 Bool.false), (Go.V.VV.lit (Go.Value.int Go.IntKind.i64 (Int.ofNat 0)))])
def kMelts : VV := (Go.V.VV.tup [(Go.V.VV.sl [(Go.V.VV.lit (Go.Value.int Go.IntKind.i64 (Int.ofNat 3)))] 1 Bool.false), (Go.V.VV.lit (Go.Value.int Go.IntKind.i64 (Int.ofNat 0)))])
def kHidden : VV := (Go.V.VV.tup [(Go.V.VV.sl [(Go.V.VV.lit (Go.Value.int Go.IntKind.i64 (Int.ofNat 0)))] 1 Bool.false), (Go.V.VV.lit (Go.Value.int Go.IntKind.i64 (Int.ofNat 0)))])
def kMany : VV := (Go.V.VV.tup [(Go.V.VV.lit (Go.Value.int Go.IntKind.i64 (Int.ofNat 3))), (Go.V.VV.lit (Go.Value.int Go.IntKind.i64 (Int.ofNat 3))), (Go.V.VV.lit (Go.Value.int Go.IntKind.i64 (Int.ofNat 0)))])
def kFarthest : VV := (Go.V.VV.tup [(Go.V.VV.agg [(Go.V.VV.lit (Go.Value.int Go.IntKind.i64 (Int.ofNat 0))), (Go.V.VV.lit (Go.Value.int Go.IntKind.i64 (Int.ofNat 2)))]), (Go.V.VV.lit (Go.Value.int Go.IntKind.i64 (Int.ofNat 0)))])
def kLeast : VV := (Go.V.VV.tup [(Go.V.VV.lit (Go.Value.int Go.IntKind.i64 (Int.ofNat 5))), (Go.V.VV.lit (Go.Value.int Go.IntKind.i64 (Int.ofNat 0)))])
def kLight : VV := (Go.V.VV.tup [(Go.V.VV.lit (Go.Value.int Go.IntKind.i64 (Int.ofNat 38))), (Go.V.VV.lit (Go.Value.int Go.IntKind.i64 (Int.ofNat 0)))])
def kHang : VV := (Go.V.VV.tup [(Go.V.VV.lit (Go.Value.int Go.IntKind.i64 (Int.ofNat 1))), (Go.V.VV.lit (Go.Value.int Go.IntKind.i64 (Int.ofNat 4))), (Go.V.VV.lit (Go.Value.int Go.IntKind.i64 (Int.ofNat 0)))])
def kRead : VV := (Go.V.VV.tup [(Go.V.VV.agg [(Go.V.VV.lit (Go.Value.int Go.IntKind.i64 (Int.ofNat 1))), (Go.V.VV.lit (Go.Value.int Go.IntKind.i64 (Int.ofNat 1))), (Go.V.VV.lit (Go.Value.int Go.IntKind.i64 (Int.ofNat 1))), (Go.V.VV.lit (Go.Value.int Go.IntKind.i64 (Int.ofNat 1))), (Go.V.VV.lit (Go.Value.int Go.IntKind.i64 (Int.ofNat 1))), (Go.V.VV.lit (Go.Value.int Go.IntKind.i64 (Int.ofNat 1))), (Go.V.VV.sl [(Go.V.VV.lit (Go.Value.int Go.IntKind.i64 (Int.ofNat 0))), (Go.V.VV.sl [(Go.V.VV.lit (Go.Value.int Go.IntKind.i64 (Int.ofNat 1))), (Go.V.VV.lit (Go.Value.int Go.IntKind.i64 (Int.ofNat 1))), (Go.V.VV.lit (Go.Value.int Go.IntKind.i64 (Int.ofNat 1))), (Go.V.VV.lit (Go.Value.int Go.IntKind.i64 (Int.ofNat 0)))] 1 Bool.false)] 1 Bool.false), (Go.V.VV.lit (Go.Value.slice Option.none 0 0))]), (Go.V.VV.lit (Go.Value.int Go.IntKind.i64 (Int.ofNat 0)))])
end Go.V
end
section
namespace Go.V
open Go Go.Proofs
theorem pS : VPure Tryz.prog G0 48 [] (.tree kS) := VPure.closedB hmix 1000 (by kernel_rfl)
theorem pT : VPure Tryz.prog G0 51 [] (.tree kT) := VPure.closedB hmix 1000 (by kernel_rfl)
theorem pAt46 : VPure Tryz.prog G0 39 [.lit (.int .i64 (4)), .lit (.int .i64 (6))] (.tree kAt46) := VPure.closedB hmix 1000 (by kernel_rfl)
theorem pAt41 : VPure Tryz.prog G0 39 [.lit (.int .i64 (4)), .lit (.int .i64 (1))] (.tree kAt41) := VPure.closedB hmix 1000 (by kernel_rfl)
theorem pAt201 : VPure Tryz.prog G0 39 [.lit (.int .i64 (20)), .lit (.int .i64 (1))] (.tree kAt201) := VPure.closedB hmix 1000 (by kernel_rfl)
theorem pAt166 : VPure Tryz.prog G0 39 [.lit (.int .i64 (16)), .lit (.int .i64 (6))] (.tree kAt166) := VPure.closedB hmix 1000 (by kernel_rfl)
theorem pAt106 : VPure Tryz.prog G0 39 [.lit (.int .i64 (10)), .lit (.int .i64 (6))] (.tree kAt106) := VPure.closedB hmix 1000 (by kernel_rfl)
theorem pSeen : VPure Tryz.prog G0 25 [kS, .lit (.int .i64 (0)), kAt46] (.tree kSeen) := VPure.closedB hmix 1000 (by kernel_rfl)
theorem pWhy : VPure Tryz.prog G0 40 [kS, .lit (.int .i64 (0)), kAt41] (.tree kWhy) := VPure.closedB hmix 1000 (by kernel_rfl)
theorem pLetters : VPure Tryz.prog G0 49 [kS, .lit (.int .i64 (0)), kAt46] (.tree kLetters) := VPure.closedB hmix 1000 (by kernel_rfl)
end Go.V
end
section
namespace Go.V
open Go Go.Proofs
theorem pMelts : VPure Tryz.prog G0 50 [kS, .lit (.int .i64 (0)), kAt201] (.tree kMelts) := VPure.closedB hmix 1000 (by kernel_rfl)
theorem pHidden : VPure Tryz.prog G0 41 [kS, .lit (.int .i64 (0)), kAt166] (.tree kHidden) := VPure.closedB hmix 1000 (by kernel_rfl)
end Go.V
end
section
namespace Go.V
open Go Go.Proofs
theorem pMany : VPure Tryz.prog G0 17 [kT, .lit (.int .i64 (0))] (.tree kMany) := VPure.closedB hmix 1000 (by kernel_rfl)
theorem pFarthest : VPure Tryz.prog G0 18 [kT, .lit (.int .i64 (0))] (.tree kFarthest) := VPure.closedB hmix 1000 (by kernel_rfl)
theorem pLeast : VPure Tryz.prog G0 52 [kS, .lit (.int .i64 (0)), kAt41] (.tree kLeast) := VPure.closedB hmix 1000 (by kernel_rfl)
end Go.V
end
section
namespace Go.V
open Go Go.Proofs
theorem pLight : VPure Tryz.prog G0 32 [kS, .lit (.int .i64 (0)), kAt106] (.tree kLight) := VPure.closedB hmix 1000 (by kernel_rfl)
end Go.V
end
section
namespace Go.V
open Go Go.Proofs
theorem pHang : VPure Tryz.prog G0 34 [kT, .lit (.int .i64 (0))] (.tree kHang) := VPure.closedB hmix 1000 (by kernel_rfl)
end Go.V
end
section
namespace Go.V
open Go Go.Proofs
theorem pRead : VPure Tryz.prog G0 44 [.lit (.string ⟨⟨[115, 105, 103, 104, 116, 32, 49, 32, 49, 32, 49, 32, 49, 32, 49, 32, 49, 10, 98, 111, 97, 114, 100, 32, 48, 10, 108, 101, 116, 116, 101, 114, 32, 49, 32, 49, 32, 49, 32, 48, 10, 101, 110, 100, 32, 48, 49, 57, 10]⟩⟩)] (.tree kRead) := VPure.closedB hmix 1000 (by kernel_rfl)
end Go.V
end
section
namespace Go.V
open Go Go.Proofs
def kTab : KTab := [
  (48, [], kS),
  (51, [], kT),
  (39, [.lit (.int .i64 (4)), .lit (.int .i64 (6))], kAt46),
  (39, [.lit (.int .i64 (4)), .lit (.int .i64 (1))], kAt41),
  (39, [.lit (.int .i64 (20)), .lit (.int .i64 (1))], kAt201),
  (39, [.lit (.int .i64 (16)), .lit (.int .i64 (6))], kAt166),
  (39, [.lit (.int .i64 (10)), .lit (.int .i64 (6))], kAt106),
  (25, [kS, .lit (.int .i64 (0)), kAt46], kSeen),
  (40, [kS, .lit (.int .i64 (0)), kAt41], kWhy),
  (49, [kS, .lit (.int .i64 (0)), kAt46], kLetters),
  (50, [kS, .lit (.int .i64 (0)), kAt201], kMelts),
  (41, [kS, .lit (.int .i64 (0)), kAt166], kHidden),
  (17, [kT, .lit (.int .i64 (0))], kMany),
  (18, [kT, .lit (.int .i64 (0))], kFarthest),
  (52, [kS, .lit (.int .i64 (0)), kAt41], kLeast),
  (32, [kS, .lit (.int .i64 (0)), kAt106], kLight),
  (34, [kT, .lit (.int .i64 (0))], kHang),
  (44, [.lit (.string ⟨⟨[115, 105, 103, 104, 116, 32, 49, 32, 49, 32, 49, 32, 49, 32, 49, 32, 49, 10, 98, 111, 97, 114, 100, 32, 48, 10, 108, 101, 116, 116, 101, 114, 32, 49, 32, 49, 32, 49, 32, 48, 10, 101, 110, 100, 32, 48, 49, 57, 10]⟩⟩)], kRead)]
theorem kTabOk : KTabOk Tryz.prog G0 kTab := ⟨⟨by kernel_rfl, pS⟩, ⟨⟨by kernel_rfl, pT⟩, ⟨⟨by kernel_rfl, pAt46⟩, ⟨⟨by kernel_rfl, pAt41⟩, ⟨⟨by kernel_rfl, pAt201⟩, ⟨⟨by kernel_rfl, pAt166⟩, ⟨⟨by kernel_rfl, pAt106⟩, ⟨⟨by kernel_rfl, pSeen⟩, ⟨⟨by kernel_rfl, pWhy⟩, ⟨⟨by kernel_rfl, pLetters⟩, ⟨⟨by kernel_rfl, pMelts⟩, ⟨⟨by kernel_rfl, pHidden⟩, ⟨⟨by kernel_rfl, pMany⟩, ⟨⟨by kernel_rfl, pFarthest⟩, ⟨⟨by kernel_rfl, pLeast⟩, ⟨⟨by kernel_rfl, pLight⟩, ⟨⟨by kernel_rfl, pHang⟩, ⟨⟨by kernel_rfl, pRead⟩, trivial⟩⟩⟩⟩⟩⟩⟩⟩⟩⟩⟩⟩⟩⟩⟩⟩⟩⟩
theorem pKnown : VPure Tryz.prog G0 16 [] (.tree (.lit (.bool true))) := VPure.closedT hmix kTabOk 1000 (by kernel_rfl)
#print axioms pKnown
end Go.V
end
section
namespace Go.V
open Go Go.Proofs
theorem g_law02_known_ok : VPure Tryz.prog G0 16 [] (.tree (.lit (.bool true))) := pKnown
end Go.V
end
