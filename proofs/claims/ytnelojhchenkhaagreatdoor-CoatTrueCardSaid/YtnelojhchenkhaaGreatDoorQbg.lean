/- Part of a proof: a logic of values by content, lifted functions, what follows. -/
import Derived.Test.YtnelojhchenkhaaGreatDoorQbf
import Derived.Test.YtnelojhchenkhaaGreatDoorQbc
import Derived.Test.YtnelojhchenkhaaGreatDoorQbe
set_option linter.all false
set_option maxRecDepth 4000
set_option maxHeartbeats 4000000
section
set_option linter.unusedVariables false
set_option linter.unusedSimpArgs false
namespace Go.V
open Go
def pfxOk (n : Nat) (i : Int) : Bool := decide (0 < n) && (decide (0 ≤ i) && decide (i ≤ n))
theorem pfxOk_iff {n : Nat} {i : Int} : pfxOk n i = true ↔ 0 < n ∧ 0 ≤ i ∧ i ≤ n := by
 unfold pfxOk
 rw [Bool.and_eq_true, Bool.and_eq_true, decide_eq_true_eq, decide_eq_true_eq, decide_eq_true_eq]
theorem neB_nil {α : Type} : neB ([] : List α) = false := rfl
def le1000 (n : Nat) : Bool := decide (n ≤ 1000)
theorem le1000_of {n : Nat} (h : le1000 n = true) : n ≤ 1000 := of_decide_eq_true h
section
variable {P : Program} {G : Glob} {f : FuncId} {β γ w c nx : Nat} {tm : Nat → VV} {H : Nat → Option VObj} {df : List VDef} {d : Option Tmp} {K : List Nat → List Nat → St → Prop} {el : Option TypeId} {α : Type} {enc : α → List VV} {xs ys : List α} {x : VV}
theorem pfx_take (hw : ∀ x, (enc x).length = w) {i : Int} (h : pfxOk xs.length i = true) : (cellsL enc xs).take (i.toNat * w) = cellsL enc (xs.take i.toNat) ∧ (xs.take i.toNat).length = i.toNat := by
 obtain ⟨h1, h2, h3⟩ := pfxOk_iff.1 h
 have hl : (xs.take i.toNat).length = i.toNat := by rw [List.length_take]; omega
 refine ⟨?_, hl⟩
 have h3 : xs = xs.take i.toNat ++ xs.drop i.toNat := (List.take_append_drop ..).symm
 have h4 := cellsL_length hw (xs.take i.toNat)
 rw [hl] at h4
 conv => lhs; rw [h3]
 rw [cellsL_append, List.take_append_of_le_length (by omega), List.take_of_length_le (by omega)]
theorem dkseenP (he : EncT enc) (hw : ∀ x, (enc x).length = w) {i : Int} (hi : pfxOk xs.length i = true) (hl : xs.length * w ≤ 1000) (hH : H β = some (.cells el (cellsL enc xs))) (hp : VPure P G f [.sl (cellsL enc (xs.take i.toNat)) (xs.take i.toNat).length false] (.tree x)) (hf : x.flat = true) (h : fin d γ tm H nx df (K [β] []) x .none) :
  dcallK P G f [.ref β 0 i.toNat w c] tm H nx df d γ K := by
 obtain ⟨e1, e2⟩ := pfx_take hw hi
 have ht : treeL (cellsL enc (xs.take i.toNat)) = true := treeL_cellsL he.tree _
 have hlen := cellsL_length hw (xs.take i.toNat)
 have h5 := (pfxOk_iff.1 hi).2.2
 rw [e2] at hlen
 have h6 : i.toNat * w ≤ 1000 := Nat.le_trans (Nat.mul_le_mul_right w (by omega)) hl
 have e0 : (VV.ref β 0 i.toNat w c).tree = false := rfl
 refine dkseen (args1 := [.sl (cellsL enc (xs.take i.toNat)) (xs.take i.toNat).length false]) (x := x) ?_ (normL_sl1 he) hp hf ?_
 ·show sealL H (99999 + 1) _ = _
  have h2 : sealV H (99998 + 1) (.ref β 0 i.toNat w c) = some (.sl (cellsL enc (xs.take i.toNat)) (xs.take i.toNat).length false) := by
   simp only [sealV, e0, hH, Nat.zero_le, if_true, List.drop_zero, e1]
   rw [seal_tree _ 99998 ht (by omega), e2]
   rfl
  simp only [sealL]
  rw [show (99999 : Nat) = 99998 + 1 from rfl, h2]
 ·have h3 : nmL H fuelS [.ref β 0 i.toNat w c] = [β] := by
   show nmL H (99999 + 1) _ = _
   have h4 : nmV H (99998 + 1) (.ref β 0 i.toNat w c) = [β] := by
    simp only [nmV, e0, hH, List.drop_zero, e1]
    rw [nm_tree _ _ ht]
    rfl
   simp only [nmL]
   rw [show (99999 : Nat) = 99998 + 1 from rfl, h4]
   simp [nmL]
  rw [h3]
  exact h
end
section
variable {P : Program} {G : Glob} {β γ w e : Nat} {t ty : TypeId} {tm : Nat → VV} {H : Nat → Option VObj} {d : Option Tmp} {k : VV → VEff → Prop} {el : Option TypeId} {α : Type} {enc : α → List VV} {xs ys : List α} {pos : String} {af : Array Edge} {g : Option (Nat × Bool)} {x : Operand} {lo hi : Option Operand}
theorem k_slP {o : Operand} {kd : IntKind} {i : Int} (hu : P.underlying t = some (.slice e)) (hs : szT P e = some w) (hx : ev G tm x = .ref β 0 xs.length w xs.length) (hH : H β = some (.cells el (cellsL enc xs))) (ho : ev G tm o = .lit (.int kd i)) (hi : pfxOk xs.length i = true)
  (h : k (.ref β 0 i.toNat w xs.length) .none) : oeK (vop P ⟨d, .slice t x none (some o) none, ty, pos, af, g⟩ (ev G tm) H γ) k := by
 obtain ⟨h1, h2, h3⟩ := pfxOk_iff.1 hi
 have e1 : vslice P H t (.ref β 0 xs.length w xs.length) none (some (.lit (.int kd i))) none = some (.ref β 0 i.toNat w xs.length) := by
  have h4 : i.toNat ≤ xs.length := by omega
  simp [vslice, hu, hs, sls, hH, vbound, h2, h4, h1]
 have e2 : vop P ⟨d, .slice t x none (some o) none, ty, pos, af, g⟩ (ev G tm) H γ = some (.ref β 0 i.toNat w xs.length, .none) := by
  simp [vop, hu, hx, ho, e1]
 rw [e2]
 exact h
end
end Go.V
end
section
namespace Go.V
open Go Go.Proofs
def g_sum_Of_l0  : List Int → Int → Int → Option (LOut (Int) (Int))
 | [], c0_8, c0_3 => some (.go c0_3)
 | e0 :: p0, c0_8, c0_3 => g_sum_Of_l0 p0 (c0_8 + 1) (IntKind.i64.wrap (c0_3 + e0))
def g_sum_Of (x0_numbers : List Int) : Option (Int) := cond (lenOk x0_numbers) (lbind (g_sum_Of_l0 x0_numbers 0 0) (fun r2 => some r2) (fun c1 => some c1) (fun _ _ => none)) none
theorem g_sum_Of_ok (x0_numbers : List Int) (R : Int) (h : g_sum_Of x0_numbers = some R) : VPure Tryz.prog G0 105 [.sl (cellsL eI x0_numbers) (List.length x0_numbers) false] (.tree (.lit (.int .i64 R))) := by
 refine VPure.runR mixed Tryz.call105 Tryz.func105 rfl (by simp [Tryz.ntmps105]; kernel_rfl) ?_
 obtain ⟨KF, h, kF, kN⟩ := fun_intro h
 simp only [g_sum_Of] at h
 cases g4 : (lenOk x0_numbers)
 ·simp only [g4, hs, reduceCtorEq] at h
  exact absurd h kN
 simp only [g4, hs, reduceCtorEq] at h
 simp only [vz, tyf, g4, nm, seval]
 obtain ⟨K3, h, kR3, kG3, kB3, kN3⟩ := lbind_intro h kN
 obtain ⟨f3, hf3, h⟩ := call3 h
 obtain ⟨I3, hI3⟩ : ∃ I : Nat → St → Prop, I = (fun m st => ∃ (p3 : List Int) (c3_8 : Int) (c3_3 : Int), m = List.length p3 ∧ 0 ≤ c3_8 ∧ List.drop (Int.toNat c3_8) x0_numbers = p3 ∧ st.df = [] ∧ 5 ≤ st.nx ∧ st.tm 6 = .sl (cellsL eI x0_numbers) (List.length x0_numbers) false ∧ st.tm 7 = .lit (.int .i64 (List.length x0_numbers : Int)) ∧ st.tm 3 = .lit (.int .i64 c3_3) ∧ st.tm 8 = .lit (.int .i64 c3_8) ∧ K3 (f3 p3 c3_8 c3_3)) := ⟨_, rfl⟩
 refine loopK mixed (by kernel_rfl) I3 (List.length x0_numbers) (by rw [hI3]; refine ⟨x0_numbers, 0, 0, rfl, Int.le_refl _, rfl, rfl, (show 5 ≤ 5 by omega), ?_, ?_, ?_, ?_, h⟩ <;> first | (simp only [ua, nm, seval] <;> rfl) | rfl) ?_
 rintro m ⟨tm, H, nx3, df⟩ hinv
 rw [hI3] at hinv
 obtain ⟨p3, c3_8, c3_3, rfl, hi3, hp3, hdf, hn3, e5, e6, e7, e8, h⟩ := hinv
 simp only at hdf hn3 e5 e6 e7 e8
 have n9 := base_ne0 (m := 5) (b := nx3) (by omega)
 subst hdf hf3
 cases p3 with
 | nil =>
  have d10 : (decide (c3_8 < (List.length x0_numbers : Int))) = false := not_lt_of_drop hi3 hp3
  simp only [g_sum_Of_l0, hs, reduceCtorEq] at h
  replace h := kG3 _ h
  try dsimp only at h
  try simp only [hs] at h
  try simp only [vz, tyf, g4, n9, e5, e6, e7, e8, d10, nm, seval]
  refine opd_ret (x := (.lit (.int .i64 c3_3))) (by first | (simp only [Tryz.results105, resV, resL, resV1, tgt_ptr, tgt_tp, uw, cr, tyf, g4, n9, d10, nm, seval] <;> rfl) | rfl) ?_
  obtain rfl := kF _ h
  refine rr_tree ?_ ?_
  ·simp only [tre, tytre, Bool.and_self]
  ·first | (simp only [outV, uw, showV_ref, cr, tyf, nrm, tynrm, g4, n9, e5, e6, e7, e8, d10, nm, seval] <;> rfl) | rfl
 | cons e3 p3 =>
  have d11 : (decide (c3_8 < (List.length x0_numbers : Int))) = true := lt_of_drop hi3 hp3
  have o13 := getI_of_drop hi3 hp3
  have w12 := wrap_next hi3 hp3 g4
  simp only [g_sum_Of_l0, hs, reduceCtorEq] at h
  simp only [vz, tyf, g4, n9, e5, e6, e7, e8, d11, (ix23 o13), w12, nm, seval]
  exact ⟨List.length p3, Nat.lt_succ_self _, by rw [hI3]; refine ⟨p3, c3_8 + 1, IntKind.i64.wrap (c3_3 + e3), rfl, Int.le_trans hi3 (Int.le_add_one (Int.le_refl _)), drop_next hi3 hp3, rfl, (show 5 ≤ nx3 + 10 by omega), e5, e6, ?_, ?_, h⟩ <;> first | (simp only [ua, n9, e5, e6, e7, e8, d11, w12, nm, seval] <;> rfl) | rfl⟩
end Go.V
end
