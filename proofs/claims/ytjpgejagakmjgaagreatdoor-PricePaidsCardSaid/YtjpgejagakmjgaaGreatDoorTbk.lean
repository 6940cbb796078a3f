/- Part of a proof. -/
import Derived.Test.YtjpgejagakmjgaaGreatDoorTbj
set_option linter.all false
set_option maxRecDepth 4000
set_option maxHeartbeats 40000000
section
namespace Go.V
open Go Go.Proofs
def zdp (x0_quantity : Int) (x1_t : GPriceTariff) : Option (Int) := cond ((x1_t.Units != 0)) (cond (x1_t.Rule == 2) (cond (decide ((IntKind.i64.wrap ((IntKind.i64.wrap (x0_quantity * x1_t.Coins)) - (IntKind.i64.wrap ((IntKind.i64.wrap (Int.tdiv (IntKind.i64.wrap (x0_quantity * x1_t.Coins)) x1_t.Units)) * x1_t.Units)))) > 0)) (some (IntKind.i64.wrap ((IntKind.i64.wrap (Int.tdiv (IntKind.i64.wrap (x0_quantity * x1_t.Coins)) x1_t.Units)) + 1))) (some (IntKind.i64.wrap (Int.tdiv (IntKind.i64.wrap (x0_quantity * x1_t.Coins)) x1_t.Units)))) (cond (x1_t.Rule == 3) (cond (decide ((IntKind.i64.wrap (2 * (IntKind.i64.wrap ((IntKind.i64.wrap (x0_quantity * x1_t.Coins)) - (IntKind.i64.wrap ((IntKind.i64.wrap (Int.tdiv (IntKind.i64.wrap (x0_quantity * x1_t.Coins)) x1_t.Units)) * x1_t.Units)))))) ≥ x1_t.Units)) (some (IntKind.i64.wrap ((IntKind.i64.wrap (Int.tdiv (IntKind.i64.wrap (x0_quantity * x1_t.Coins)) x1_t.Units)) + 1))) (some (IntKind.i64.wrap (Int.tdiv (IntKind.i64.wrap (x0_quantity * x1_t.Coins)) x1_t.Units)))) (cond (x1_t.Rule == 4) (cond (decide ((IntKind.i64.wrap (2 * (IntKind.i64.wrap ((IntKind.i64.wrap (x0_quantity * x1_t.Coins)) - (IntKind.i64.wrap ((IntKind.i64.wrap (Int.tdiv (IntKind.i64.wrap (x0_quantity * x1_t.Coins)) x1_t.Units)) * x1_t.Units)))))) > x1_t.Units)) (some (IntKind.i64.wrap ((IntKind.i64.wrap (Int.tdiv (IntKind.i64.wrap (x0_quantity * x1_t.Coins)) x1_t.Units)) + 1))) (cond ((IntKind.i64.wrap (2 * (IntKind.i64.wrap ((IntKind.i64.wrap (x0_quantity * x1_t.Coins)) - (IntKind.i64.wrap ((IntKind.i64.wrap (Int.tdiv (IntKind.i64.wrap (x0_quantity * x1_t.Coins)) x1_t.Units)) * x1_t.Units)))))) == x1_t.Units) (cond ((Int.tmod (IntKind.i64.wrap (Int.tdiv (IntKind.i64.wrap (x0_quantity * x1_t.Coins)) x1_t.Units)) 2) == 1) (some (IntKind.i64.wrap ((IntKind.i64.wrap (Int.tdiv (IntKind.i64.wrap (x0_quantity * x1_t.Coins)) x1_t.Units)) + 1))) (some (IntKind.i64.wrap (Int.tdiv (IntKind.i64.wrap (x0_quantity * x1_t.Coins)) x1_t.Units)))) (some (IntKind.i64.wrap (Int.tdiv (IntKind.i64.wrap (x0_quantity * x1_t.Coins)) x1_t.Units))))) (some (IntKind.i64.wrap (Int.tdiv (IntKind.i64.wrap (x0_quantity * x1_t.Coins)) x1_t.Units)))))) none
theorem zfe (x0_quantity : Int) (x1_t : GPriceTariff) (R : Int) (h : zdp x0_quantity x1_t = some R) : VPure Tryz.prog G0 72 [.lit (.int .i64 x0_quantity), .agg (cGPriceTariff x1_t)] (.tree (.lit (.int .i64 R))) := by
 refine VPure.runR mixed Tryz.call72 Tryz.func72 rfl (by simp [Tryz.ntmps72]; kernel_rfl) ?_
 obtain ⟨KF, h, kF, kN⟩ := zaq h
 simp only [zdp] at h
 cases g1 : ((x1_t.Units != 0))
 ·simp only [g1, hs] at h
  exact absurd h kN
 simp only [g1, hs] at h
 cases d2 : (x1_t.Rule == 2)
 ·simp only [d2, hs] at h
  cases d3 : (x1_t.Rule == 3)
  ·simp only [d3, hs] at h
   cases d4 : (x1_t.Rule == 4)
   ·simp only [d4, hs] at h
    try simp only [vz, qr, tyf, g1, d2, d3, d4, nm, seval]
    refine zau (x := (.lit (.int .i64 (IntKind.i64.wrap (Int.tdiv (IntKind.i64.wrap (x0_quantity * x1_t.Coins)) x1_t.Units))))) (by first | (simp only [Tryz.results72, resV, resL, resV1, zat, zbu, uw, cr, tyf, g1, d2, d3, d4, nm, seval] <;> rfl) | rfl) ?_
    obtain rfl := kF _ h
    refine zbc ?_ ?_
    ·simp only [tre, tytre, Bool.and_self]
    ·first | (simp only [outV, uw, zan, cr, tyf, nrm, tynrm, g1, d2, d3, d4, nm, seval] <;> rfl) | rfl
   simp only [d4, hs] at h
   cases d5 : (decide ((IntKind.i64.wrap (2 * (IntKind.i64.wrap ((IntKind.i64.wrap (x0_quantity * x1_t.Coins)) - (IntKind.i64.wrap ((IntKind.i64.wrap (Int.tdiv (IntKind.i64.wrap (x0_quantity * x1_t.Coins)) x1_t.Units)) * x1_t.Units)))))) > x1_t.Units))
   ·simp only [d5, hs] at h
    cases d6 : ((IntKind.i64.wrap (2 * (IntKind.i64.wrap ((IntKind.i64.wrap (x0_quantity * x1_t.Coins)) - (IntKind.i64.wrap ((IntKind.i64.wrap (Int.tdiv (IntKind.i64.wrap (x0_quantity * x1_t.Coins)) x1_t.Units)) * x1_t.Units)))))) == x1_t.Units)
    ·simp only [d6, hs] at h
     try simp only [vz, qr, tyf, g1, d2, d3, d4, d5, d6, nm, seval]
     refine zau (x := (.lit (.int .i64 (IntKind.i64.wrap (Int.tdiv (IntKind.i64.wrap (x0_quantity * x1_t.Coins)) x1_t.Units))))) (by first | (simp only [Tryz.results72, resV, resL, resV1, zat, zbu, uw, cr, tyf, g1, d2, d3, d4, d5, d6, nm, seval] <;> rfl) | rfl) ?_
     obtain rfl := kF _ h
     refine zbc ?_ ?_
     ·simp only [tre, tytre, Bool.and_self]
     ·first | (simp only [outV, uw, zan, cr, tyf, nrm, tynrm, g1, d2, d3, d4, d5, d6, nm, seval] <;> rfl) | rfl
    simp only [d6, hs] at h
    cases d7 : ((Int.tmod (IntKind.i64.wrap (Int.tdiv (IntKind.i64.wrap (x0_quantity * x1_t.Coins)) x1_t.Units)) 2) == 1)
    ·simp only [d7, hs] at h
     have b8 := And.intro g1 (And.intro d2 (And.intro d3 (And.intro d4 (And.intro d5 (And.intro d6 d7)))))
     try simp only [vz, qr, tyf, b8, nm, seval]
     refine zau (x := (.lit (.int .i64 (IntKind.i64.wrap (Int.tdiv (IntKind.i64.wrap (x0_quantity * x1_t.Coins)) x1_t.Units))))) (by first | (simp only [Tryz.results72, resV, resL, resV1, zat, zbu, uw, cr, tyf, b8, nm, seval] <;> rfl) | rfl) ?_
     obtain rfl := kF _ h
     refine zbc ?_ ?_
     ·simp only [tre, tytre, Bool.and_self]
     ·first | (simp only [outV, uw, zan, cr, tyf, nrm, tynrm, b8, nm, seval] <;> rfl) | rfl
    simp only [d7, hs] at h
    have b9 := And.intro g1 (And.intro d2 (And.intro d3 (And.intro d4 (And.intro d5 (And.intro d6 d7)))))
    try simp only [vz, qr, tyf, b9, nm, seval]
    refine zau (x := (.lit (.int .i64 (IntKind.i64.wrap ((IntKind.i64.wrap (Int.tdiv (IntKind.i64.wrap (x0_quantity * x1_t.Coins)) x1_t.Units)) + 1))))) (by first | (simp only [Tryz.results72, resV, resL, resV1, zat, zbu, uw, cr, tyf, b9, nm, seval] <;> rfl) | rfl) ?_
    obtain rfl := kF _ h
    refine zbc ?_ ?_
    ·simp only [tre, tytre, Bool.and_self]
    ·first | (simp only [outV, uw, zan, cr, tyf, nrm, tynrm, b9, nm, seval] <;> rfl) | rfl
   simp only [d5, hs] at h
   try simp only [vz, qr, tyf, g1, d2, d3, d4, d5, nm, seval]
   refine zau (x := (.lit (.int .i64 (IntKind.i64.wrap ((IntKind.i64.wrap (Int.tdiv (IntKind.i64.wrap (x0_quantity * x1_t.Coins)) x1_t.Units)) + 1))))) (by first | (simp only [Tryz.results72, resV, resL, resV1, zat, zbu, uw, cr, tyf, g1, d2, d3, d4, d5, nm, seval] <;> rfl) | rfl) ?_
   obtain rfl := kF _ h
   refine zbc ?_ ?_
   ·simp only [tre, tytre, Bool.and_self]
   ·first | (simp only [outV, uw, zan, cr, tyf, nrm, tynrm, g1, d2, d3, d4, d5, nm, seval] <;> rfl) | rfl
  simp only [d3, hs] at h
  cases d10 : (decide ((IntKind.i64.wrap (2 * (IntKind.i64.wrap ((IntKind.i64.wrap (x0_quantity * x1_t.Coins)) - (IntKind.i64.wrap ((IntKind.i64.wrap (Int.tdiv (IntKind.i64.wrap (x0_quantity * x1_t.Coins)) x1_t.Units)) * x1_t.Units)))))) ≥ x1_t.Units))
  ·simp only [d10, hs] at h
   try simp only [vz, qr, tyf, g1, d2, d3, d10, nm, seval]
   refine zau (x := (.lit (.int .i64 (IntKind.i64.wrap (Int.tdiv (IntKind.i64.wrap (x0_quantity * x1_t.Coins)) x1_t.Units))))) (by first | (simp only [Tryz.results72, resV, resL, resV1, zat, zbu, uw, cr, tyf, g1, d2, d3, d10, nm, seval] <;> rfl) | rfl) ?_
   obtain rfl := kF _ h
   refine zbc ?_ ?_
   ·simp only [tre, tytre, Bool.and_self]
   ·first | (simp only [outV, uw, zan, cr, tyf, nrm, tynrm, g1, d2, d3, d10, nm, seval] <;> rfl) | rfl
  simp only [d10, hs] at h
  try simp only [vz, qr, tyf, g1, d2, d3, d10, nm, seval]
  refine zau (x := (.lit (.int .i64 (IntKind.i64.wrap ((IntKind.i64.wrap (Int.tdiv (IntKind.i64.wrap (x0_quantity * x1_t.Coins)) x1_t.Units)) + 1))))) (by first | (simp only [Tryz.results72, resV, resL, resV1, zat, zbu, uw, cr, tyf, g1, d2, d3, d10, nm, seval] <;> rfl) | rfl) ?_
  obtain rfl := kF _ h
  refine zbc ?_ ?_
  ·simp only [tre, tytre, Bool.and_self]
  ·first | (simp only [outV, uw, zan, cr, tyf, nrm, tynrm, g1, d2, d3, d10, nm, seval] <;> rfl) | rfl
 simp only [d2, hs] at h
 cases d11 : (decide ((IntKind.i64.wrap ((IntKind.i64.wrap (x0_quantity * x1_t.Coins)) - (IntKind.i64.wrap ((IntKind.i64.wrap (Int.tdiv (IntKind.i64.wrap (x0_quantity * x1_t.Coins)) x1_t.Units)) * x1_t.Units)))) > 0))
 ·simp only [d11, hs] at h
  try simp only [vz, qr, tyf, g1, d2, d11, nm, seval]
  refine zau (x := (.lit (.int .i64 (IntKind.i64.wrap (Int.tdiv (IntKind.i64.wrap (x0_quantity * x1_t.Coins)) x1_t.Units))))) (by first | (simp only [Tryz.results72, resV, resL, resV1, zat, zbu, uw, cr, tyf, g1, d2, d11, nm, seval] <;> rfl) | rfl) ?_
  obtain rfl := kF _ h
  refine zbc ?_ ?_
  ·simp only [tre, tytre, Bool.and_self]
  ·first | (simp only [outV, uw, zan, cr, tyf, nrm, tynrm, g1, d2, d11, nm, seval] <;> rfl) | rfl
 simp only [d11, hs] at h
 try simp only [vz, qr, tyf, g1, d2, d11, nm, seval]
 refine zau (x := (.lit (.int .i64 (IntKind.i64.wrap ((IntKind.i64.wrap (Int.tdiv (IntKind.i64.wrap (x0_quantity * x1_t.Coins)) x1_t.Units)) + 1))))) (by first | (simp only [Tryz.results72, resV, resL, resV1, zat, zbu, uw, cr, tyf, g1, d2, d11, nm, seval] <;> rfl) | rfl) ?_
 obtain rfl := kF _ h
 refine zbc ?_ ?_
 ·simp only [tre, tytre, Bool.and_self]
 ·first | (simp only [outV, uw, zan, cr, tyf, nrm, tynrm, g1, d2, d11, nm, seval] <;> rfl) | rfl
def zcm (x0_b : GPriceBoard) (x1_kind : Int) (x2_hours : Int) : Option (Int) := cond (x1_kind == 1) (some x0_b.Letters) (cond (x1_kind == 2) (some x0_b.Feet) (cond (x1_kind == 3) (some x2_hours) (some 1)))
theorem zdr (x0_b : GPriceBoard) (x1_kind : Int) (x2_hours : Int) (R : Int) (h : zcm x0_b x1_kind x2_hours = some R) : VPure Tryz.prog G0 78 [.agg (cGPriceBoard x0_b), .lit (.int .i64 x1_kind), .lit (.int .i64 x2_hours)] (.tree (.lit (.int .i64 R))) := by
 refine VPure.runR mixed Tryz.call78 Tryz.func78 rfl (by simp [Tryz.ntmps78]; kernel_rfl) ?_
 obtain ⟨KF, h, kF, kN⟩ := zaq h
 simp only [zcm] at h
 cases d1 : (x1_kind == 1)
 ·simp only [d1, hs] at h
  cases d2 : (x1_kind == 2)
  ·simp only [d2, hs] at h
   cases d3 : (x1_kind == 3)
   ·simp only [d3, hs] at h
    try simp only [vz, tyf, d1, d2, d3, nm, seval]
    refine zau (x := (.lit (.int .i64 1))) (by first | (simp only [Tryz.results78, resV, resL, resV1, zat, zbu, uw, cr, tyf, d1, d2, d3, nm, seval] <;> rfl) | rfl) ?_
    obtain rfl := kF _ h
    refine zbc ?_ ?_
    ·simp only [tre, tytre, Bool.and_self]
    ·first | (simp only [outV, uw, zan, cr, tyf, nrm, tynrm, d1, d2, d3, nm, seval] <;> rfl) | rfl
   simp only [d3, hs] at h
   try simp only [vz, tyf, d1, d2, d3, nm, seval]
   refine zau (x := (.lit (.int .i64 x2_hours))) (by first | (simp only [Tryz.results78, resV, resL, resV1, zat, zbu, uw, cr, tyf, d1, d2, d3, nm, seval] <;> rfl) | rfl) ?_
   obtain rfl := kF _ h
   refine zbc ?_ ?_
   ·simp only [tre, tytre, Bool.and_self]
   ·first | (simp only [outV, uw, zan, cr, tyf, nrm, tynrm, d1, d2, d3, nm, seval] <;> rfl) | rfl
  simp only [d2, hs] at h
  try simp only [vz, tyf, d1, d2, nm, seval]
  refine zau (x := (.lit (.int .i64 x0_b.Feet))) (by first | (simp only [Tryz.results78, resV, resL, resV1, zat, zbu, uw, cr, tyf, d1, d2, nm, seval] <;> rfl) | rfl) ?_
  obtain rfl := kF _ h
  refine zbc ?_ ?_
  ·simp only [tre, tytre, Bool.and_self]
  ·first | (simp only [outV, uw, zan, cr, tyf, nrm, tynrm, d1, d2, nm, seval] <;> rfl) | rfl
 simp only [d1, hs] at h
 try simp only [vz, tyf, d1, nm, seval]
 refine zau (x := (.lit (.int .i64 x0_b.Letters))) (by first | (simp only [Tryz.results78, resV, resL, resV1, zat, zbu, uw, cr, tyf, d1, nm, seval] <;> rfl) | rfl) ?_
 obtain rfl := kF _ h
 refine zbc ?_ ?_
 ·simp only [tre, tytre, Bool.and_self]
 ·first | (simp only [outV, uw, zan, cr, tyf, nrm, tynrm, d1, nm, seval] <;> rfl) | rfl
def zbv (x1_t : GPriceTariff) (x2_hours : List Int) : List GPriceBoard → Int → (List Int) → Option (LOut (List Int) ((List Int)))
 | [], c0_8, c0_7 => some (.go c0_7)
 | e0 :: p0, c0_8, c0_7 => Option.bind (getI x2_hours c0_8) (fun x1 => Option.bind (zcm e0 x1_t.Kind x1) (fun r2 => Option.bind (zdp r2 x1_t) (fun r3 => cond (roomOk 8 (List.length (c0_7 ++ [r3]))) (zbv x1_t x2_hours p0 (c0_8 + 1) (c0_7 ++ [r3])) none)))
def zfo (x0_s : GPriceSheet) (x1_t : GPriceTariff) (x2_hours : List Int) : Option (List Int) := cond (lenOk x0_s.Boards) (lbind (zbv x1_t x2_hours x0_s.Boards 0 ([] : List Int)) (fun r5 => some r5) (fun c4 => some c4) (fun _ _ => none)) none
theorem zma (x0_s : GPriceSheet) (x1_t : GPriceTariff) (x2_hours : List Int) (R : List Int) (h : zfo x0_s x1_t x2_hours = some R) : VPure Tryz.prog G0 36 [.agg (cGPriceSheet x0_s), .agg (cGPriceTariff x1_t), .sl (cellsL eI x2_hours) (List.length x2_hours) false] (.tree (.sl (cellsL eI R) (List.length R) false)) := by
 refine VPure.runR mixed Tryz.call36 Tryz.func36 rfl (by simp [Tryz.ntmps36]; kernel_rfl) ?_
 obtain ⟨KF, h, kF, kN⟩ := zaq h
 simp only [zfo] at h
 cases g7 : (lenOk x0_s.Boards)
 ·simp only [g7, hs] at h
  exact absurd h kN
 simp only [g7, hs] at h
 simp only [vz, tyf, g7, nm, seval]
 obtain ⟨K6, h, kR6, kG6, kB6, kN6⟩ := zbf h kN
 obtain ⟨f6, hf6, h⟩ := call3 h
 obtain ⟨I6, hI6⟩ : ∃ I : Nat → St → Prop, I = (fun m st => ∃ (p6 : List GPriceBoard) (c6_8 : Int) (c6_7 : List Int) (y6_0 : VV), m = List.length p6 ∧ 0 ≤ c6_8 ∧ List.drop (Int.toNat c6_8) x0_s.Boards = p6 ∧ st.df = [] ∧ 5 ≤ st.nx ∧ st.H 0 = some (.cells (some 26) (cGPriceSheet x0_s)) ∧ st.H 1 = some (.cells (some 42) (cGPriceTariff x1_t)) ∧ st.tm 2 = .sl (cellsL eI x2_hours) (List.length x2_hours) false ∧ st.tm 3 = .ptr 0 0 ∧ st.tm 4 = .ptr 1 0 ∧ st.tm 7 = y6_0 ∧ st.tm 8 = .lit (.int .i64 c6_8) ∧ ((∃ (β : Nat) (el : Option TypeId), y6_0 = .ref β 0 (List.length c6_7) 1 (List.length c6_7) ∧ β < st.nx ∧ β ≠ 0 ∧ β ≠ 1 ∧ st.H β = some (.cells el (cellsL eI c6_7))) ∨ (y6_0 = .lit (.slice none 0 0) ∧ c6_7 = [])) ∧ K6 (f6 p6 c6_8 c6_7)) := ⟨_, rfl⟩
 refine loopK mixed (by kernel_rfl) I6 (List.length x0_s.Boards) (by rw [hI6]; refine ⟨x0_s.Boards, 0, ([] : List Int), .lit (.slice none 0 0), rfl, Int.le_refl _, rfl, rfl, (show 5 ≤ 5 by omega), ?_, ?_, ?_, ?_, ?_, ?_, ?_, Or.inr ⟨rfl, rfl⟩, h⟩ <;> first | (simp only [ua, nm, seval] <;> rfl) | rfl) ?_
 rintro m ⟨tm, H, nx6, df⟩ hinv
 rw [hI6] at hinv
 obtain ⟨p6, c6_8, c6_7, y6_0, rfl, hi6, hp6, hdf, hn6, H8, H9, e10, e11, e12, e13, e14, ow6_0, h⟩ := hinv
 simp only at hdf hn6 H8 H9 e10 e11 e12 e13 e14 ow6_0
 have n15 := zda (m := 5) (b := nx6) (by omega)
 subst hdf hf6
 rcases ow6_0 with ⟨b6_0, el6_0, rfl, lq17, lq18, lq19, H16⟩ | ⟨rfl, rfl⟩
 ·have q17 := zhn lq17
  have q18 := ne_f lq18
  have q19 := ne_f lq19
  cases p6 with
  | nil =>
   have d20 : (decide (c6_8 < (List.length x0_s.Boards : Int))) = false := zaj hi6 hp6
   simp only [zbv, hs, reduceCtorEq] at h
   replace h := kG6 _ h
   try dsimp only at h
   try simp only [hs] at h
   try simp only [vz, tyf, g7, n15, e10, e11, e12, e13, e14, H8, H9, q17, H16, q18, q19, d20, nm, seval]
   refine zau (x := (.ref b6_0 0 (List.length c6_7) 1 (List.length c6_7))) (by first | (simp only [Tryz.results36, resV, resL, resV1, zat, zbu, uw, cr, tyf, g7, n15, H8, H9, q17, H16, q18, q19, d20, nm, seval] <;> rfl) | rfl) ?_
   obtain rfl := kF _ h
   refine zbc ?_ ?_
   ·simp only [tre, tytre, Bool.and_self]
   ·first | (simp only [outV, uw, zan, cr, tyf, nrm, tynrm, g7, n15, e10, e11, e12, e13, e14, H8, H9, q17, H16, q18, q19, d20, nm, seval] <;> rfl) | rfl
  | cons e6 p6 =>
   have d21 : (decide (c6_8 < (List.length x0_s.Boards : Int))) = true := zaw hi6 hp6
   have o23 := zak hi6 hp6
   have w22 := zbj hi6 hp6 g7
   simp only [zbv, hs, reduceCtorEq] at h
   simp only [vz, tyf, g7, n15, e10, e11, e12, e13, e14, H8, H9, q17, H16, q18, q19, d21, (ix23 o23), w22, nm, seval]
   refine zdb (fun tm => tm 2 = .sl (cellsL eI x2_hours) (List.length x2_hours) false ∧ tm 3 = .ptr 0 0 ∧ tm 4 = .ptr 1 0 ∧ tm 7 = .ref b6_0 0 (List.length c6_7) 1 (List.length c6_7) ∧ tm 8 = .lit (.int .i64 c6_8) ∧ True) (by refine ⟨e10, e11, e12, e13, e14, trivial⟩ <;> first | (simp only [ua, n15, e10, e11, e12, e13, e14, H8, H9, q17, H16, q18, q19, d21, w22, nm, seval] <;> rfl) | rfl) ?_
   rintro tm ⟨e24, e25, e26, e27, e28, _⟩
   have b29 := And.intro g7 (And.intro n15 (And.intro H8 (And.intro H9 (And.intro q17 (And.intro H16 (And.intro q18 (And.intro q19 (And.intro d21 w22))))))))
   obtain ⟨x30, o31, h⟩ := optI h kN6
   try simp only [hs] at h
   obtain ⟨r32, o33, h⟩ := optI h kN6
   try simp only [hs] at h
   simp only [vz, tyf, b29, (ix23 o23), e24, e25, e26, e27, e28, (ix22 o31), nm, seval]
   refine dktA (zdr _ _ _ _ o33) ?_
   refine zar (fun tm => tm 2 = .sl (cellsL eI x2_hours) (List.length x2_hours) false ∧ tm 3 = .ptr 0 0 ∧ tm 4 = .ptr 1 0 ∧ tm 8 = .lit (.int .i64 c6_8) ∧ tm 16 = .ref b6_0 0 (List.length c6_7) 1 (List.length c6_7) ∧ tm 28 = .lit (.int .i64 r32) ∧ True) (by refine ⟨e24, e25, e26, e28, ?_, ?_, trivial⟩ <;> first | (simp only [ua, b29, e24, e25, e26, e27, e28, nm, seval] <;> rfl) | rfl) ?_
   rintro tm ⟨e34, e35, e36, e37, e38, e39, _⟩
   obtain ⟨r40, o41, h⟩ := optI h kN6
   try simp only [hs] at h
   simp only [vz, tyf, b29, (ix23 o23), (ix22 o31), e34, e35, e36, e37, e38, e39, nm, seval]
   refine dktA (zfe _ _ _ o41) ?_
   refine zar (fun tm => tm 2 = .sl (cellsL eI x2_hours) (List.length x2_hours) false ∧ tm 3 = .ptr 0 0 ∧ tm 4 = .ptr 1 0 ∧ tm 8 = .lit (.int .i64 c6_8) ∧ tm 16 = .ref b6_0 0 (List.length c6_7) 1 (List.length c6_7) ∧ tm 30 = .lit (.int .i64 r40) ∧ True) (by refine ⟨e34, e35, e36, e37, e38, ?_, trivial⟩ <;> first | (simp only [ua, b29, e34, e35, e36, e37, e38, e39, nm, seval] <;> rfl) | rfl) ?_
   rintro tm ⟨e42, e43, e44, e45, e46, e47, _⟩
   cases g48 : (roomOk 8 (List.length (c6_7 ++ [r40])))
   ·simp only [g48, hs] at h
    exact absurd h kN6
   simp only [g48, hs] at h
   simp only [vz, tyf, b29, (ix23 o23), (ix22 o31), e42, e43, e44, e45, e46, e47, g48, nm, seval]
   refine k_app (w := 1) (enc := eI) (xs := c6_7) (ys := ([r40])) (el := el6_0) (el2 := (some 3)) (fun _ => rfl) lf22 ao22 Tryz.underlying22 (by first | rfl | assumption | (simp only [zab, zaa, et22, b29, nm, seval] <;> rfl) | (simp only [zab, zaa, zac, zad, zcn, zbl, tyf, b29, (ix23 o23), (ix22 o31), e42, e43, e44, e45, e46, e47, g48, nm, seval]; done)) (by first | rfl | assumption | (simp only [zab, zaa, et22, b29, nm, seval] <;> rfl) | (simp only [zab, zaa, zac, zad, zcn, zbl, tyf, b29, (ix23 o23), (ix22 o31), e42, e43, e44, e45, e46, e47, g48, nm, seval]; done)) (Nat.zero_lt_succ _) g48 ?_
   simp only [vz, tyf, b29, (ix23 o23), (ix22 o31), e42, e43, e44, e45, e46, e47, g48, nm, seval]
   refine zee ⟨?_, ?_⟩
   ·simp only [zcl, zde, zbb, zfc, and_true, true_and]
    repeat' (first | exact trivial | refine And.intro ?_ ?_ | rw [zbb] | rw [zeb] | exact Or.inl (by decide +kernel) | exact Or.inl (by dsimp only; decide +kernel) | (refine Or.inr ⟨?_, ?_⟩ <;> simp; done) | (refine Or.inr ⟨?_, ?_⟩ <;> simp <;> omega) | (refine Or.inr ⟨?_, ?_⟩ <;> simp [VEff.wr] <;> omega))
   simp only [vz, tyf, b29, (ix23 o23), (ix22 o31), e42, e43, e44, e45, e46, e47, g48, nm, seval]
   exact ⟨List.length p6, Nat.lt_succ_self _, by rw [hI6]; refine ⟨p6, c6_8 + 1, (c6_7 ++ [r40]), .ref (nx6 + 21) 0 (List.length (c6_7 ++ [r40])) 1 (List.length (c6_7 ++ [r40])), rfl, Int.le_trans hi6 (Int.le_add_one (Int.le_refl _)), zax hi6 hp6, rfl, (show 5 ≤ nx6 + 26 by omega), ?_, ?_, e42, e43, e44, ?_, ?_, Or.inl ⟨nx6 + 21, (sameEl el6_0 3), rfl, (by first | omega | (simp only [nm, seval]; done) | (simp only [nm, seval]; omega)), (by first | omega | (intro hh; simp only [b29, reduceCtorEq] at hh)), (by first | omega | (intro hh; simp only [b29, reduceCtorEq] at hh)), ?_⟩, (by first | exact h | (simp only [b29]; exact h))⟩ <;> first | (simp only [ua, b29, e42, e43, e44, e45, e46, e47, nm, seval] <;> rfl) | rfl⟩
 ·cases p6 with
  | nil =>
   have d49 : (decide (c6_8 < (List.length x0_s.Boards : Int))) = false := zaj hi6 hp6
   simp only [zbv, hs, reduceCtorEq] at h
   replace h := kG6 _ h
   try dsimp only at h
   try simp only [hs] at h
   try simp only [vz, tyf, g7, n15, e10, e11, e12, e13, e14, H8, H9, d49, nm, seval]
   refine zau (x := (.lit (.slice none 0 0))) (by first | (simp only [Tryz.results36, resV, resL, resV1, zat, zbu, uw, cr, tyf, g7, n15, H8, H9, d49, nm, seval] <;> rfl) | rfl) ?_
   obtain rfl := kF _ h
   refine zbc ?_ ?_
   ·simp only [tre, tytre, Bool.and_self]
   ·first | (simp only [outV, uw, zan, cr, tyf, nrm, tynrm, g7, n15, e10, e11, e12, e13, e14, H8, H9, d49, nm, seval] <;> rfl) | rfl
  | cons e6 p6 =>
   have d50 : (decide (c6_8 < (List.length x0_s.Boards : Int))) = true := zaw hi6 hp6
   have o52 := zak hi6 hp6
   have w51 := zbj hi6 hp6 g7
   simp only [zbv, hs, reduceCtorEq] at h
   simp only [vz, tyf, g7, n15, e10, e11, e12, e13, e14, H8, H9, d50, (ix23 o52), w51, nm, seval]
   refine zdb (fun tm => tm 2 = .sl (cellsL eI x2_hours) (List.length x2_hours) false ∧ tm 3 = .ptr 0 0 ∧ tm 4 = .ptr 1 0 ∧ tm 7 = .lit (.slice none 0 0) ∧ tm 8 = .lit (.int .i64 c6_8) ∧ True) (by refine ⟨e10, e11, e12, e13, e14, trivial⟩ <;> first | (simp only [ua, n15, e10, e11, e12, e13, e14, H8, H9, d50, w51, nm, seval] <;> rfl) | rfl) ?_
   rintro tm ⟨e53, e54, e55, e56, e57, _⟩
   obtain ⟨x58, o59, h⟩ := optI h kN6
   try simp only [hs] at h
   obtain ⟨r60, o61, h⟩ := optI h kN6
   try simp only [hs] at h
   simp only [vz, tyf, g7, n15, H8, H9, d50, (ix23 o52), w51, e53, e54, e55, e56, e57, (ix22 o59), nm, seval]
   refine dktA (zdr _ _ _ _ o61) ?_
   refine zar (fun tm => tm 2 = .sl (cellsL eI x2_hours) (List.length x2_hours) false ∧ tm 3 = .ptr 0 0 ∧ tm 4 = .ptr 1 0 ∧ tm 8 = .lit (.int .i64 c6_8) ∧ tm 16 = .lit (.slice none 0 0) ∧ tm 28 = .lit (.int .i64 r60) ∧ True) (by refine ⟨e53, e54, e55, e57, ?_, ?_, trivial⟩ <;> first | (simp only [ua, n15, H8, H9, d50, w51, e53, e54, e55, e56, e57, nm, seval] <;> rfl) | rfl) ?_
   rintro tm ⟨e62, e63, e64, e65, e66, e67, _⟩
   obtain ⟨r68, o69, h⟩ := optI h kN6
   try simp only [hs] at h
   simp only [vz, tyf, g7, n15, H8, H9, d50, (ix23 o52), w51, (ix22 o59), e62, e63, e64, e65, e66, e67, nm, seval]
   refine dktA (zfe _ _ _ o69) ?_
   refine zar (fun tm => tm 2 = .sl (cellsL eI x2_hours) (List.length x2_hours) false ∧ tm 3 = .ptr 0 0 ∧ tm 4 = .ptr 1 0 ∧ tm 8 = .lit (.int .i64 c6_8) ∧ tm 16 = .lit (.slice none 0 0) ∧ tm 30 = .lit (.int .i64 r68) ∧ True) (by refine ⟨e62, e63, e64, e65, e66, ?_, trivial⟩ <;> first | (simp only [ua, n15, H8, H9, d50, w51, e62, e63, e64, e65, e66, e67, nm, seval] <;> rfl) | rfl) ?_
   rintro tm ⟨e70, e71, e72, e73, e74, e75, _⟩
   cases g76 : (roomOk 8 (List.length (([] : List Int) ++ [r68])))
   ·simp only [g76, hs] at h
    exact absurd h kN6
   simp only [g76, hs] at h
   simp only [vz, tyf, g7, n15, H8, H9, d50, (ix23 o52), w51, (ix22 o59), e70, e71, e72, e73, e74, e75, g76, nm, seval]
   refine zmp (w := 1) (enc := eI) (ys := ([r68])) (el2 := (some 3)) (fun _ => rfl) lf22 ao22 Tryz.underlying22 (by first | rfl | assumption | (simp only [zab, zaa, et22, n15, H8, H9, nm, seval] <;> rfl) | (simp only [zab, zaa, zac, zad, zcn, zbl, tyf, g7, n15, H8, H9, d50, (ix23 o52), w51, (ix22 o59), e70, e71, e72, e73, e74, e75, g76, nm, seval]; done)) (Nat.zero_lt_succ _) g76 ?_
   simp only [vz, tyf, g7, n15, H8, H9, d50, (ix23 o52), w51, (ix22 o59), e70, e71, e72, e73, e74, e75, g76, nm, seval]
   refine zee ⟨?_, ?_⟩
   ·simp only [zcl, zde, zbb, zfc, and_true, true_and]
    repeat' (first | exact trivial | refine And.intro ?_ ?_ | rw [zbb] | rw [zeb] | exact Or.inl (by decide +kernel) | exact Or.inl (by dsimp only; decide +kernel) | (refine Or.inr ⟨?_, ?_⟩ <;> simp; done) | (refine Or.inr ⟨?_, ?_⟩ <;> simp <;> omega) | (refine Or.inr ⟨?_, ?_⟩ <;> simp [VEff.wr] <;> omega))
   simp only [vz, tyf, g7, n15, H8, H9, d50, (ix23 o52), w51, (ix22 o59), e70, e71, e72, e73, e74, e75, g76, nm, seval]
   exact ⟨List.length p6, Nat.lt_succ_self _, by rw [hI6]; refine ⟨p6, c6_8 + 1, (([] : List Int) ++ [r68]), .ref (nx6 + 21) 0 (List.length (([] : List Int) ++ [r68])) 1 (List.length (([] : List Int) ++ [r68])), rfl, Int.le_trans hi6 (Int.le_add_one (Int.le_refl _)), zax hi6 hp6, rfl, (show 5 ≤ nx6 + 26 by omega), ?_, ?_, e70, e71, e72, ?_, ?_, Or.inl ⟨nx6 + 21, (some 3), rfl, (by first | omega | (simp only [nm, seval]; done) | (simp only [nm, seval]; omega)), (by first | omega | (intro hh; simp only [n15, reduceCtorEq] at hh)), (by first | omega | (intro hh; simp only [n15, reduceCtorEq] at hh)), ?_⟩, (by first | exact h | (simp only [d50]; exact h))⟩ <;> first | (simp only [ua, n15, H8, H9, d50, w51, e70, e71, e72, e73, e74, e75, nm, seval] <;> rfl) | rfl⟩
def zdi  : List Int → Int → Int → Option (LOut (Int) (Int))
 | [], c0_4, c0_3 => some (.go c0_3)
 | e0 :: p0, c0_4, c0_3 => zdi p0 (c0_4 + 1) (IntKind.i64.wrap (c0_3 + e0))
def zha (x0_l : List Int) : Option (Int) := cond (lenOk x0_l) (lbind (zdi x0_l 0 0) (fun r2 => some r2) (fun c1 => some c1) (fun _ _ => none)) none
theorem zqg (x0_l : List Int) (R : Int) (h : zha x0_l = some R) : VPure Tryz.prog G0 57 [.sl (cellsL eI x0_l) (List.length x0_l) false] (.tree (.lit (.int .i64 R))) := by
 refine VPure.runR mixed Tryz.call57 Tryz.func57 rfl (by simp [Tryz.ntmps57]; kernel_rfl) ?_
 obtain ⟨KF, h, kF, kN⟩ := zaq h
 simp only [zha] at h
 cases g4 : (lenOk x0_l)
 ·simp only [g4, hs] at h
  exact absurd h kN
 simp only [g4, hs] at h
 simp only [vz, tyf, g4, nm, seval]
 obtain ⟨K3, h, kR3, kG3, kB3, kN3⟩ := zbf h kN
 obtain ⟨f3, hf3, h⟩ := call3 h
 obtain ⟨I3, hI3⟩ : ∃ I : Nat → St → Prop, I = (fun m st => ∃ (p3 : List Int) (c3_4 : Int) (c3_3 : Int), m = List.length p3 ∧ 0 ≤ c3_4 ∧ List.drop (Int.toNat c3_4) x0_l = p3 ∧ st.df = [] ∧ 3 ≤ st.nx ∧ st.tm 0 = .sl (cellsL eI x0_l) (List.length x0_l) false ∧ st.tm 3 = .lit (.int .i64 c3_3) ∧ st.tm 4 = .lit (.int .i64 c3_4) ∧ K3 (f3 p3 c3_4 c3_3)) := ⟨_, rfl⟩
 refine loopK mixed (by kernel_rfl) I3 (List.length x0_l) (by rw [hI3]; refine ⟨x0_l, 0, 0, rfl, Int.le_refl _, rfl, rfl, (show 3 ≤ 3 by omega), ?_, ?_, ?_, h⟩ <;> first | (simp only [ua, nm, seval] <;> rfl) | rfl) ?_
 rintro m ⟨tm, H, nx3, df⟩ hinv
 rw [hI3] at hinv
 obtain ⟨p3, c3_4, c3_3, rfl, hi3, hp3, hdf, hn3, e5, e6, e7, h⟩ := hinv
 simp only at hdf hn3 e5 e6 e7
 have n8 := zda (m := 3) (b := nx3) (by omega)
 subst hdf hf3
 cases p3 with
 | nil =>
  have d9 : (decide (c3_4 < (List.length x0_l : Int))) = false := zaj hi3 hp3
  simp only [zdi, hs, reduceCtorEq] at h
  replace h := kG3 _ h
  try dsimp only at h
  try simp only [hs] at h
  try simp only [vz, tyf, g4, n8, e5, e6, e7, d9, nm, seval]
  refine zau (x := (.lit (.int .i64 c3_3))) (by first | (simp only [Tryz.results57, resV, resL, resV1, zat, zbu, uw, cr, tyf, g4, n8, d9, nm, seval] <;> rfl) | rfl) ?_
  obtain rfl := kF _ h
  refine zbc ?_ ?_
  ·simp only [tre, tytre, Bool.and_self]
  ·first | (simp only [outV, uw, zan, cr, tyf, nrm, tynrm, g4, n8, e5, e6, e7, d9, nm, seval] <;> rfl) | rfl
 | cons e3 p3 =>
  have d10 : (decide (c3_4 < (List.length x0_l : Int))) = true := zaw hi3 hp3
  have o12 := zak hi3 hp3
  have w11 := zbj hi3 hp3 g4
  simp only [zdi, hs, reduceCtorEq] at h
  simp only [vz, tyf, g4, n8, e5, e6, e7, d10, (ix22 o12), w11, nm, seval]
  exact ⟨List.length p3, Nat.lt_succ_self _, by rw [hI3]; refine ⟨p3, c3_4 + 1, IntKind.i64.wrap (c3_3 + e3), rfl, Int.le_trans hi3 (Int.le_add_one (Int.le_refl _)), zax hi3 hp3, rfl, (show 3 ≤ nx3 + 14 by omega), e5, ?_, ?_, (by first | exact h | (simp only [d10]; exact h))⟩ <;> first | (simp only [ua, n8, e5, e6, e7, d10, w11, nm, seval] <;> rfl) | rfl⟩
def zay (x1_t : GPriceTariff) (x2_hours : List Int) (x3_owner : Int) : List GPriceBoard → Int → Int → Option (LOut (Int) (Int))
 | [], c0_10, c0_9 => some (.go c0_9)
 | e0 :: p0, c0_10, c0_9 => cond (decide (x3_owner < 0)) (Option.bind (getI x2_hours c0_10) (fun x1 => Option.bind (zcm e0 x1_t.Kind x1) (fun r2 => zay x1_t x2_hours x3_owner p0 (c0_10 + 1) (IntKind.i64.wrap (c0_9 + r2))))) (cond (e0.Owner == x3_owner) (Option.bind (getI x2_hours c0_10) (fun x3 => Option.bind (zcm e0 x1_t.Kind x3) (fun r4 => zay x1_t x2_hours x3_owner p0 (c0_10 + 1) (IntKind.i64.wrap (c0_9 + r4))))) (zay x1_t x2_hours x3_owner p0 (c0_10 + 1) c0_9))
def zed (x0_s : GPriceSheet) (x1_t : GPriceTariff) (x2_hours : List Int) (x3_owner : Int) : Option (Int) := cond (lenOk x0_s.Boards) (lbind (zay x1_t x2_hours x3_owner x0_s.Boards 0 0) (fun r6 => some r6) (fun c5 => some c5) (fun _ _ => none)) none
theorem zir (x0_s : GPriceSheet) (x1_t : GPriceTariff) (x2_hours : List Int) (x3_owner : Int) (R : Int) (h : zed x0_s x1_t x2_hours x3_owner = some R) : VPure Tryz.prog G0 73 [.agg (cGPriceSheet x0_s), .agg (cGPriceTariff x1_t), .sl (cellsL eI x2_hours) (List.length x2_hours) false, .lit (.int .i64 x3_owner)] (.tree (.lit (.int .i64 R))) := by
 refine VPure.runR mixed Tryz.call73 Tryz.func73 rfl (by simp [Tryz.ntmps73]; kernel_rfl) ?_
 obtain ⟨KF, h, kF, kN⟩ := zaq h
 simp only [zed] at h
 cases g8 : (lenOk x0_s.Boards)
 ·simp only [g8, hs] at h
  exact absurd h kN
 simp only [g8, hs] at h
 simp only [vz, tyf, g8, nm, seval]
 obtain ⟨K7, h, kR7, kG7, kB7, kN7⟩ := zbf h kN
 obtain ⟨f7, hf7, h⟩ := call3 h
 obtain ⟨I7, hI7⟩ : ∃ I : Nat → St → Prop, I = (fun m st => ∃ (p7 : List GPriceBoard) (c7_10 : Int) (c7_9 : Int), m = List.length p7 ∧ 0 ≤ c7_10 ∧ List.drop (Int.toNat c7_10) x0_s.Boards = p7 ∧ st.df = [] ∧ 5 ≤ st.nx ∧ st.H 0 = some (.cells (some 26) (cGPriceSheet x0_s)) ∧ st.H 1 = some (.cells (some 42) (cGPriceTariff x1_t)) ∧ st.tm 2 = .sl (cellsL eI x2_hours) (List.length x2_hours) false ∧ st.tm 3 = .lit (.int .i64 x3_owner) ∧ st.tm 4 = .ptr 0 0 ∧ st.tm 5 = .ptr 1 0 ∧ st.tm 9 = .lit (.int .i64 c7_9) ∧ st.tm 10 = .lit (.int .i64 c7_10) ∧ K7 (f7 p7 c7_10 c7_9)) := ⟨_, rfl⟩
 refine loopK mixed (by kernel_rfl) I7 (List.length x0_s.Boards) (by rw [hI7]; refine ⟨x0_s.Boards, 0, 0, rfl, Int.le_refl _, rfl, rfl, (show 5 ≤ 5 by omega), ?_, ?_, ?_, ?_, ?_, ?_, ?_, ?_, h⟩ <;> first | (simp only [ua, nm, seval] <;> rfl) | rfl) ?_
 rintro m ⟨tm, H, nx7, df⟩ hinv
 rw [hI7] at hinv
 obtain ⟨p7, c7_10, c7_9, rfl, hi7, hp7, hdf, hn7, H9, H10, e11, e12, e13, e14, e15, e16, h⟩ := hinv
 simp only at hdf hn7 H9 H10 e11 e12 e13 e14 e15 e16
 have n17 := zda (m := 5) (b := nx7) (by omega)
 subst hdf hf7
 cases p7 with
 | nil =>
  have d18 : (decide (c7_10 < (List.length x0_s.Boards : Int))) = false := zaj hi7 hp7
  simp only [zay, hs, reduceCtorEq] at h
  replace h := kG7 _ h
  try dsimp only at h
  try simp only [hs] at h
  try simp only [vz, tyf, g8, n17, e11, e12, e13, e14, e15, e16, H9, H10, d18, nm, seval]
  refine zau (x := (.lit (.int .i64 c7_9))) (by first | (simp only [Tryz.results73, resV, resL, resV1, zat, zbu, uw, cr, tyf, g8, n17, H9, H10, d18, nm, seval] <;> rfl) | rfl) ?_
  obtain rfl := kF _ h
  refine zbc ?_ ?_
  ·simp only [tre, tytre, Bool.and_self]
  ·first | (simp only [outV, uw, zan, cr, tyf, nrm, tynrm, g8, n17, e11, e12, e13, e14, e15, e16, H9, H10, d18, nm, seval] <;> rfl) | rfl
 | cons e7 p7 =>
  have d19 : (decide (c7_10 < (List.length x0_s.Boards : Int))) = true := zaw hi7 hp7
  have o21 := zak hi7 hp7
  have w20 := zbj hi7 hp7 g8
  simp only [zay, hs, reduceCtorEq] at h
  cases d22 : (decide (x3_owner < 0))
  ·simp only [d22, hs] at h
   have b23 := And.intro g8 (And.intro n17 (And.intro H9 (And.intro H10 (And.intro d19 (And.intro w20 d22)))))
   cases d24 : (e7.Owner == x3_owner)
   ·simp only [d24, hs] at h
    simp only [vz, tyf, b23, e11, e12, e13, e14, e15, e16, (ix23 o21), d24, nm, seval]
    exact ⟨List.length p7, Nat.lt_succ_self _, by rw [hI7]; refine ⟨p7, c7_10 + 1, c7_9, rfl, Int.le_trans hi7 (Int.le_add_one (Int.le_refl _)), zax hi7 hp7, rfl, (show 5 ≤ nx7 + 20 by omega), ?_, ?_, e11, e12, e13, e14, e15, ?_, (by first | exact h | (simp only [b23, d24]; exact h))⟩ <;> first | (simp only [ua, b23, e11, e12, e13, e14, e15, e16, d24, nm, seval] <;> rfl) | rfl⟩
   simp only [d24, hs] at h
   simp only [vz, tyf, b23, e11, e12, e13, e14, e15, e16, (ix23 o21), d24, nm, seval]
   refine zig (fun tm => tm 2 = .sl (cellsL eI x2_hours) (List.length x2_hours) false ∧ tm 3 = .lit (.int .i64 x3_owner) ∧ tm 4 = .ptr 0 0 ∧ tm 5 = .ptr 1 0 ∧ tm 9 = .lit (.int .i64 c7_9) ∧ tm 10 = .lit (.int .i64 c7_10) ∧ True) (by refine ⟨e11, e12, e13, e14, e15, e16, trivial⟩ <;> first | (simp only [ua, b23, e11, e12, e13, e14, e15, e16, d24, nm, seval] <;> rfl) | rfl) ?_
   rintro tm ⟨e25, e26, e27, e28, e29, e30, _⟩
   obtain ⟨x31, o32, h⟩ := optI h kN7
   try simp only [hs] at h
   obtain ⟨r33, o34, h⟩ := optI h kN7
   try simp only [hs] at h
   simp only [vz, tyf, b23, (ix23 o21), d24, e25, e26, e27, e28, e29, e30, (ix22 o32), nm, seval]
   refine dktA (zdr _ _ _ _ o34) ?_
   refine zar (fun tm => tm 2 = .sl (cellsL eI x2_hours) (List.length x2_hours) false ∧ tm 3 = .lit (.int .i64 x3_owner) ∧ tm 4 = .ptr 0 0 ∧ tm 5 = .ptr 1 0 ∧ tm 10 = .lit (.int .i64 c7_10) ∧ tm 30 = .lit (.int .i64 c7_9) ∧ tm 42 = .lit (.int .i64 r33) ∧ True) (by refine ⟨e25, e26, e27, e28, e30, ?_, ?_, trivial⟩ <;> first | (simp only [ua, b23, d24, e25, e26, e27, e28, e29, e30, nm, seval] <;> rfl) | rfl) ?_
   rintro tm ⟨e35, e36, e37, e38, e39, e40, e41, _⟩
   simp only [vz, tyf, b23, (ix23 o21), d24, (ix22 o32), e35, e36, e37, e38, e39, e40, e41, nm, seval]
   exact ⟨List.length p7, Nat.lt_succ_self _, by rw [hI7]; refine ⟨p7, c7_10 + 1, IntKind.i64.wrap (c7_9 + r33), rfl, Int.le_trans hi7 (Int.le_add_one (Int.le_refl _)), zax hi7 hp7, rfl, (show 5 ≤ nx7 + 35 by omega), ?_, ?_, e35, e36, e37, e38, ?_, ?_, (by first | exact h | (simp only [b23, d24]; exact h))⟩ <;> first | (simp only [ua, b23, d24, e35, e36, e37, e38, e39, e40, e41, nm, seval] <;> rfl) | rfl⟩
  simp only [d22, hs] at h
  have b42 := And.intro g8 (And.intro n17 (And.intro H9 (And.intro H10 (And.intro d19 (And.intro w20 d22)))))
  simp only [vz, tyf, b42, e11, e12, e13, e14, e15, e16, (ix23 o21), nm, seval]
  refine zig (fun tm => tm 2 = .sl (cellsL eI x2_hours) (List.length x2_hours) false ∧ tm 3 = .lit (.int .i64 x3_owner) ∧ tm 4 = .ptr 0 0 ∧ tm 5 = .ptr 1 0 ∧ tm 9 = .lit (.int .i64 c7_9) ∧ tm 10 = .lit (.int .i64 c7_10) ∧ True) (by refine ⟨e11, e12, e13, e14, e15, e16, trivial⟩ <;> first | (simp only [ua, b42, e11, e12, e13, e14, e15, e16, nm, seval] <;> rfl) | rfl) ?_
  rintro tm ⟨e43, e44, e45, e46, e47, e48, _⟩
  obtain ⟨x49, o50, h⟩ := optI h kN7
  try simp only [hs] at h
  obtain ⟨r51, o52, h⟩ := optI h kN7
  try simp only [hs] at h
  simp only [vz, tyf, b42, (ix23 o21), e43, e44, e45, e46, e47, e48, (ix22 o50), nm, seval]
  refine dktA (zdr _ _ _ _ o52) ?_
  refine zar (fun tm => tm 2 = .sl (cellsL eI x2_hours) (List.length x2_hours) false ∧ tm 3 = .lit (.int .i64 x3_owner) ∧ tm 4 = .ptr 0 0 ∧ tm 5 = .ptr 1 0 ∧ tm 10 = .lit (.int .i64 c7_10) ∧ tm 30 = .lit (.int .i64 c7_9) ∧ tm 42 = .lit (.int .i64 r51) ∧ True) (by refine ⟨e43, e44, e45, e46, e48, ?_, ?_, trivial⟩ <;> first | (simp only [ua, b42, e43, e44, e45, e46, e47, e48, nm, seval] <;> rfl) | rfl) ?_
  rintro tm ⟨e53, e54, e55, e56, e57, e58, e59, _⟩
  simp only [vz, tyf, b42, (ix23 o21), (ix22 o50), e53, e54, e55, e56, e57, e58, e59, nm, seval]
  exact ⟨List.length p7, Nat.lt_succ_self _, by rw [hI7]; refine ⟨p7, c7_10 + 1, IntKind.i64.wrap (c7_9 + r51), rfl, Int.le_trans hi7 (Int.le_add_one (Int.le_refl _)), zax hi7 hp7, rfl, (show 5 ≤ nx7 + 35 by omega), ?_, ?_, e53, e54, e55, e56, ?_, ?_, (by first | exact h | (simp only [b42]; exact h))⟩ <;> first | (simp only [ua, b42, e53, e54, e55, e56, e57, e58, e59, nm, seval] <;> rfl) | rfl⟩
def zdu (x0_s : GPriceSheet) (x1_t : GPriceTariff) (x2_hours : List Int) : Option (Int) := cond (x1_t.Each) (Option.bind (zfo x0_s x1_t x2_hours) (fun r1 => Option.bind (zha r1) (fun r2 => some r2))) (Option.bind (zed x0_s x1_t x2_hours (-1)) (fun r3 => Option.bind (zdp r3 x1_t) (fun r4 => some r4)))
theorem zey (x0_s : GPriceSheet) (x1_t : GPriceTariff) (x2_hours : List Int) (R : Int) (h : zdu x0_s x1_t x2_hours = some R) : VPure Tryz.prog G0 29 [.agg (cGPriceSheet x0_s), .agg (cGPriceTariff x1_t), .sl (cellsL eI x2_hours) (List.length x2_hours) false] (.tree (.lit (.int .i64 R))) := by
 refine VPure.runR mixed Tryz.call29 Tryz.func29 rfl (by simp [Tryz.ntmps29]; kernel_rfl) ?_
 obtain ⟨KF, h, kF, kN⟩ := zaq h
 simp only [zdu] at h
 cases d5 : (x1_t.Each)
 ·simp only [d5, hs] at h
  simp only [vz, tyf, d5, nm, seval]
  refine zig (fun tm => tm 2 = .sl (cellsL eI x2_hours) (List.length x2_hours) false ∧ tm 3 = .ptr 0 0 ∧ tm 4 = .ptr 1 0 ∧ True) (by refine ⟨?_, ?_, ?_, trivial⟩ <;> first | (simp only [ua, d5, nm, seval] <;> rfl) | rfl | (simp only [ua, tyf, d5, nm, seval] <;> rfl)) ?_
  rintro tm ⟨e6, e7, e8, _⟩
  obtain ⟨r9, o10, h⟩ := optI h kN
  try simp only [hs] at h
  simp only [vz, tyf, d5, e6, e7, e8, nm, seval]
  refine dktree (args0 := [.agg (cGPriceSheet x0_s), .agg (cGPriceTariff x1_t), .sl (cellsL eI x2_hours) (List.length x2_hours) false, .lit (.int .i64 (-1))]) (by first | (simp only [nrm, tynrm, @zbh, tyf, d5] <;> rfl) | rfl) (by simp only [tre, tytre, Bool.and_self]) (zir _ _ _ _ _ o10) ?_
  refine zar (fun tm => tm 4 = .ptr 1 0 ∧ tm 17 = .lit (.int .i64 r9) ∧ True) (by refine ⟨e8, ?_, trivial⟩ <;> first | (simp only [ua, d5, e6, e7, e8, nm, seval] <;> rfl) | rfl | (simp only [ua, tyf, d5, e6, e7, e8, nm, seval] <;> rfl)) ?_
  rintro tm ⟨e11, e12, _⟩
  obtain ⟨r13, o14, h⟩ := optI h kN
  try simp only [hs] at h
  simp only [vz, tyf, d5, e11, e12, nm, seval]
  refine dktree (args0 := [.lit (.int .i64 r9), .agg (cGPriceTariff x1_t)]) (by first | (simp only [nrm, tynrm, @zbh, tyf, d5] <;> rfl) | rfl) (by simp only [tre, tytre, Bool.and_self]) (zfe _ _ _ o14) ?_
  refine zar (fun tm => tm 19 = .lit (.int .i64 r13) ∧ True) (by refine ⟨?_, trivial⟩ <;> first | (simp only [ua, d5, e11, e12, nm, seval] <;> rfl) | rfl | (simp only [ua, tyf, d5, e11, e12, nm, seval] <;> rfl)) ?_
  rintro tm ⟨e15, _⟩
  try simp only [vz, tyf, d5, e15, nm, seval]
  refine zau (x := (.lit (.int .i64 r13))) (by first | (simp only [Tryz.results29, resV, resL, resV1, zat, zbu, uw, cr, tyf, d5, nm, seval] <;> rfl) | rfl) ?_
  obtain rfl := kF _ h
  refine zbc ?_ ?_
  ·simp only [tre, tytre, Bool.and_self]
  ·first | (simp only [outV, uw, zan, cr, tyf, nrm, tynrm, d5, e15, nm, seval] <;> rfl) | rfl
 simp only [d5, hs] at h
 obtain ⟨r16, o17, h⟩ := optI h kN
 try simp only [hs] at h
 simp only [vz, tyf, d5, nm, seval]
 refine ktree (args0 := [.agg (cGPriceSheet x0_s), .agg (cGPriceTariff x1_t), .sl (cellsL eI x2_hours) (List.length x2_hours) false]) (by first | (simp only [nrm, tynrm, @zbh, tyf, d5] <;> rfl) | rfl) (by simp only [tre, tytre, Bool.and_self]) (zma _ _ _ _ o17) ?_
 refine zar (fun tm => tm 12 = .sl (cellsL eI r16) (List.length r16) false ∧ True) (by refine ⟨?_, trivial⟩ <;> first | (simp only [ua, d5, nm, seval] <;> rfl) | rfl | (simp only [ua, tyf, d5, nm, seval] <;> rfl)) ?_
 rintro tm ⟨e18, _⟩
 obtain ⟨r19, o20, h⟩ := optI h kN
 try simp only [hs] at h
 simp only [vz, tyf, d5, e18, nm, seval]
 refine ktree (args0 := [.sl (cellsL eI r16) (List.length r16) false]) (by first | (simp only [nrm, tynrm, @zbh, tyf, d5] <;> rfl) | rfl) (by simp only [tre, tytre, Bool.and_self]) (zqg _ _ o20) ?_
 refine zar (fun tm => tm 13 = .lit (.int .i64 r19) ∧ True) (by refine ⟨?_, trivial⟩ <;> first | (simp only [ua, d5, e18, nm, seval] <;> rfl) | rfl | (simp only [ua, tyf, d5, e18, nm, seval] <;> rfl)) ?_
 rintro tm ⟨e21, _⟩
 try simp only [vz, tyf, d5, e21, nm, seval]
 refine zau (x := (.lit (.int .i64 r19))) (by first | (simp only [Tryz.results29, resV, resL, resV1, zat, zbu, uw, cr, tyf, d5, nm, seval] <;> rfl) | rfl) ?_
 obtain rfl := kF _ h
 refine zbc ?_ ?_
 ·simp only [tre, tytre, Bool.and_self]
 ·first | (simp only [outV, uw, zan, cr, tyf, nrm, tynrm, d5, e21, nm, seval] <;> rfl) | rfl
end Go.V
end
section
namespace Go.V
open Go
def rd (c u r : Int) : Int := if r = 1 then c / u else if r = 2 then (c + u - 1) / u else if r = 3 then (2 * c + u) / (2 * u) else if 2 * (((2 * c + u) / (2 * u)) * u - c) = u ∧ ((2 * c + u) / (2 * u)) % 2 = 1 then (2 * c + u) / (2 * u) - 1 else (2 * c + u) / (2 * u)
theorem zce {u : Int} (h1 : 1 ≤ u) (h2 : u ≤ 12) : u = 1 ∨ u = 2 ∨ u = 3 ∨ u = 4 ∨ u = 5 ∨ u = 6 ∨ u = 7 ∨ u = 8 ∨ u = 9 ∨ u = 10 ∨ u = 11 ∨ u = 12 := by omega
theorem zapr {c u : Int} (h0 : 0 ≤ c) (h1 : c ≤ 200000) (h2 : 1 ≤ u) (h3 : u ≤ 12) : zcd ⟨c, u⟩ = some ((2 * c + u) / (2 * u)) ∧ 0 ≤ (2 * c + u) / (2 * u) ∧ (2 * c + u) / (2 * u) ≤ c := by
 unfold zcd
 simp only
 rw [zco (n := 2 * u) (by omega) (by omega), zco (n := 2 * c) (by omega) (by omega), zco (n := 2 * c + u) (by omega) (by omega), Int.tdiv_eq_ediv_of_nonneg (by omega)]
 have hb : 0 ≤ (2 * c + u) / (2 * u) ∧ (2 * c + u) / (2 * u) ≤ c := by
  rcases zce h2 h3 with h | h | h | h | h | h | h | h | h | h | h | h <;> subst h <;> omega
 rw [zco (by omega) (by omega), show ((2 * u) != 0) = true from by simp; omega]
 exact ⟨rfl, hb⟩
theorem by_eq {c u r : Int} (h0 : 0 ≤ c) (h1 : c ≤ 200000) (h2 : 1 ≤ u) (h3 : u ≤ 12) (h4 : 1 ≤ r) (h5 : r ≤ 4) : zdv ⟨c, u⟩ r = some (rd c u r) := by
 have hu : (u != 0) = true := by simp; omega
 obtain ⟨hn, hn0, hn1⟩ := zapr h0 h1 h2 h3
 unfold zdv
 rw [zco (by omega) (by omega)]
 rcases (show r = 1 ∨ r = 2 ∨ r = 3 ∨ r = 4 by omega) with h | h | h | h <;> subst h
 ·show Option.bind (zcu ⟨c, u⟩) _ = _
  unfold zcu
  simp only [hu, cond_true, Option.bind_some]
  have hb : 0 ≤ c / u ∧ c / u ≤ c := by
   rcases zce h2 h3 with h | h | h | h | h | h | h | h | h | h | h | h <;> subst h <;> omega
  rw [Int.tdiv_eq_ediv_of_nonneg h0, zco (by omega) (by omega)]
  rfl
 ·show Option.bind (zdy ⟨c, u⟩) _ = _
  unfold zdy
  simp only [hu, cond_true, Option.bind_some]
  have hb : 0 ≤ (c + u - 1) / u ∧ (c + u - 1) / u ≤ c := by
   rcases zce h2 h3 with h | h | h | h | h | h | h | h | h | h | h | h <;> subst h <;> omega
  rw [zco (n := c + u) (by omega) (by omega), zco (n := c + u - 1) (by omega) (by omega), Int.tdiv_eq_ediv_of_nonneg (by omega), zco (by omega) (by omega)]
  rfl
 ·show Option.bind (zcd ⟨c, u⟩) _ = _
  rw [hn]; rfl
 ·show Option.bind (zcx ⟨c, u⟩) _ = _
  unfold zcx
  rw [hn]
  simp only [Option.bind_some]
  generalize hm : (2 * c + u) / (2 * u) = n at *
  have hm2 : n * u ≤ c + u ∧ 0 ≤ n * u := by
   subst hm
   rcases zce h2 h3 with h | h | h | h | h | h | h | h | h | h | h | h <;> subst h <;> omega
  rw [zco (n := n * u) (by omega) (by omega), zco (n := n * u - c) (by omega) (by omega), zco (n := 2 * (n * u - c)) (by omega) (by omega), zco (n := n - 1) (by omega) (by omega), Int.tmod_eq_emod_of_nonneg hn0]
  unfold rd
  rw [hm]
  simp only [show ¬ ((4 : Int) = 1) by omega, show ¬ ((4 : Int) = 2) by omega, show ¬ ((4 : Int) = 3) by omega, if_false]
  by_cases e1 : 2 * (n * u - c) = u
  ·rw [show (2 * (n * u - c) == u) = true from by simpa using e1, cond_true]
   by_cases e2 : n % 2 = 1
   ·rw [show (n % 2 == 1) = true from by simpa using e2, cond_true, if_pos ⟨e1, e2⟩]; rfl
   ·rw [show (n % 2 == 1) = false from by simpa using e2, cond_false, if_neg fun h => e2 h.2]; rfl
  ·rw [show (2 * (n * u - c) == u) = false from by simpa using e1, cond_false, if_neg fun h => e1 h.1]; rfl
theorem rd_b {c u r : Int} (h0 : 0 ≤ c) (h2 : 1 ≤ u) (h3 : u ≤ 12) : 0 ≤ rd c u r ∧ rd c u r ≤ c := by
 unfold rd
 rcases zce h2 h3 with h | h | h | h | h | h | h | h | h | h | h | h <;> subst h <;> (repeat' split) <;> omega
theorem zapt {c d u r : Int} (h0 : 0 ≤ c) (h : c ≤ d) (h2 : 1 ≤ u) (h3 : u ≤ 12) : rd c u r ≤ rd d u r := by
 unfold rd
 rcases zce h2 h3 with h | h | h | h | h | h | h | h | h | h | h | h <;> subst h <;> (repeat' split) <;> omega
def rdT (t : GPriceTariff) (q : Int) : Int := rd (q * t.Coins) t.Units t.Rule
structure TOk (t : GPriceTariff) : Prop where
 k : 1 ≤ t.Kind ∧ t.Kind ≤ 4
 c : 0 ≤ t.Coins ∧ t.Coins ≤ 500
 u : 1 ≤ t.Units ∧ t.Units ≤ 12
 r : 1 ≤ t.Rule ∧ t.Rule ≤ 4
theorem zasm {t : GPriceTariff} (h : tariffB t = true) : TOk t := by
 simp only [tariffB, Bool.and_eq_true, zgy] at h
 exact ⟨h.1, h.2.2.1, h.2.2.2, h.2.1⟩
theorem zafn {t : GPriceTariff} (ht : TOk t) {q M : Int} (h0 : 0 ≤ q) (h1 : q ≤ M) : 0 ≤ q * t.Coins ∧ q * t.Coins ≤ M * 500 := mulR h0 h1 ht.c.1 ht.c.2
theorem rdT_b {t : GPriceTariff} (ht : TOk t) {q M : Int} (h0 : 0 ≤ q) (h1 : q ≤ M) : 0 ≤ rdT t q ∧ rdT t q ≤ M * 500 := by
 have := zafn ht h0 h1
 have := rd_b (r := t.Rule) this.1 ht.u.1 ht.u.2
 unfold rdT; omega
theorem zacl {t : GPriceTariff} (ht : TOk t) {q p : Int} (h0 : 0 ≤ q) (h1 : q ≤ p) : rdT t q ≤ rdT t p := by
 have := zafn ht h0 h1
 exact zapt this.1 (Int.mul_le_mul_of_nonneg_right h1 ht.c.1) ht.u.1 ht.u.2
theorem zqp {t : GPriceTariff} (ht : TOk t) {q : Int} (h0 : 0 ≤ q) (h1 : q ≤ 240) : zdp q t = some (rdT t q) := by
 have hp := zafn ht h0 h1
 obtain ⟨⟨_, _⟩, _, ⟨u1, u2⟩, ⟨r1, r2⟩⟩ := ht
 unfold zdp rdT
 generalize q * t.Coins = c at *
 generalize t.Units = u at *
 generalize t.Rule = r at *
 have hu : (u != 0) = true := by simp; omega
 rw [hu, zco (n := c) (by omega) (by omega), Int.tdiv_eq_ediv_of_nonneg hp.1]
 have hb : 0 ≤ c / u ∧ c / u ≤ c ∧ 0 ≤ c / u * u ∧ c / u * u ≤ c := by
  rcases zce u1 u2 with h | h | h | h | h | h | h | h | h | h | h | h <;> subst h <;> omega
 rw [zco (n := c / u) (by omega) (by omega), zco (n := c / u * u) (by omega) (by omega), zco (n := c - c / u * u) (by omega) (by omega), zco (n := 2 * (c - c / u * u)) (by omega) (by omega), zco (n := c / u + 1) (by omega) (by omega), Int.tmod_eq_emod_of_nonneg hb.1]
 unfold rd
 rcases (show r = 1 ∨ r = 2 ∨ r = 3 ∨ r = 4 by omega) with h | h | h | h <;> subst h
 ·rfl
 ·simp only [cond_true, show ((2 : Int) == 2) = true from rfl, show ¬ ((2 : Int) = 1) by omega, if_false, if_true]
  by_cases e : c - c / u * u > 0
  ·rw [decide_eq_true e, cond_true]
   congr 1
   rcases zce u1 u2 with h | h | h | h | h | h | h | h | h | h | h | h <;> subst h <;> omega
  ·rw [decide_eq_false e, cond_false]
   congr 1
   rcases zce u1 u2 with h | h | h | h | h | h | h | h | h | h | h | h <;> subst h <;> omega
 ·simp only [cond_true, cond_false, show ((3 : Int) == 2) = false from rfl, show ((3 : Int) == 3) = true from rfl, show ¬ ((3 : Int) = 1) by omega, show ¬ ((3 : Int) = 2) by omega, if_false, if_true]
  by_cases e : 2 * (c - c / u * u) ≥ u
  ·rw [decide_eq_true e, cond_true]
   congr 1
   rcases zce u1 u2 with h | h | h | h | h | h | h | h | h | h | h | h <;> subst h <;> omega
  ·rw [decide_eq_false e, cond_false]
   congr 1
   rcases zce u1 u2 with h | h | h | h | h | h | h | h | h | h | h | h <;> subst h <;> omega
 ·simp only [cond_true, cond_false, show ((4 : Int) == 2) = false from rfl, show ((4 : Int) == 3) = false from rfl, show ((4 : Int) == 4) = true from rfl, show ¬ ((4 : Int) = 1) by omega, show ¬ ((4 : Int) = 2) by omega, show ¬ ((4 : Int) = 3) by omega, if_false, if_true]
  by_cases e : 2 * (c - c / u * u) > u
  ·rw [decide_eq_true e, cond_true]
   congr 1
   rcases zce u1 u2 with h | h | h | h | h | h | h | h | h | h | h | h <;> subst h <;> split <;> omega
  ·rw [decide_eq_false e, cond_false]
   by_cases e2 : 2 * (c - c / u * u) = u
   ·rw [show (2 * (c - c / u * u) == u) = true from by simpa using e2, cond_true]
    by_cases e3 : c / u % 2 = 1
    ·rw [show (c / u % 2 == 1) = true from by simpa using e3, cond_true]
     congr 1
     rcases zce u1 u2 with h | h | h | h | h | h | h | h | h | h | h | h <;> subst h <;> split <;> omega
    ·rw [show (c / u % 2 == 1) = false from by simpa using e3, cond_false]
     congr 1
     rcases zce u1 u2 with h | h | h | h | h | h | h | h | h | h | h | h <;> subst h <;> split <;> omega
   ·rw [show (2 * (c - c / u * u) == u) = false from by simpa using e2, cond_false]
    congr 1
    rcases zce u1 u2 with h | h | h | h | h | h | h | h | h | h | h | h <;> subst h <;> split <;> omega
def InvM (l : List (Gpricebill × Int)) : Prop := ∀ p ∈ l, p.2 = rdT p.1.tariff p.1.quantity
theorem InvM.nil : InvM [] := fun _ h => by cases h
theorem zaat (s : GPriceSheet) {t : GPriceTariff} (ht : TOk t) (hs : List Int) {q : Int} (h0 : 0 ≤ q) (h1 : q ≤ 240) {l : List (Gpricebill × Int)} (hl : InvM l) : ∃ l', zbt s t hs q l = some (rdT t q, l') ∧ InvM l' := by
 have hp := zafn ht h0 h1
 unfold zbt mapHas mapGet mapSet
 cases hk : kIdx q146 ⟨t, q⟩ (l.map (·.1)) 0 with
 | some i =>
  obtain ⟨_, e, he, hq⟩ := zlf _ _ _ hk
  rw [Nat.sub_zero, List.getElem?_map] at he
  cases hg : l[i]? with
  | none => rw [hg] at he; cases he
  | some p =>
   rw [hg] at he
   simp only [Option.map_some, Option.some.injEq] at he
   have hpe := hq146 _ _ hq
   have hv := hl p (List.mem_of_getElem? hg)
   rw [he, ← hpe] at hv
   simp only [Option.isSome_some, cond_true, hg, hv]
   exact ⟨l, rfl, hl⟩
 | none =>
  simp only [Option.isSome_none, cond_false]
  rw [zco (by omega) (by omega), by_eq hp.1 (by omega) ht.u.1 ht.u.2 ht.r.1 ht.r.2]
  refine ⟨l ++ [(⟨t, q⟩, rdT t q)], rfl, ?_⟩
  intro p hp
  rcases List.mem_append.1 hp with hp | hp
  ·exact hl p hp
  ·rw [List.mem_singleton.1 hp]
def qtyP (k : Int) (b : GPriceBoard) (h : Int) : Int := if k = 1 then b.Letters else if k = 2 then b.Feet else if k = 3 then h else 1
def qsP (k : Int) : List GPriceBoard → List Int → List Int
 | b :: bs, h :: hs => qtyP k b h :: qsP k bs hs
 | _, _ => []
theorem zqk {k : Int} : ∀ {bs : List GPriceBoard} {hs : List Int}, hs.length = bs.length → (qsP k bs hs).length = bs.length
 | [], [], _ => rfl
 | b :: bs, h :: hs, e => by simp only [qsP, List.length_cons]; rw [zqk (by simpa using e)]
def sumL : List Int → Int
 | [] => 0
 | a :: l => a + sumL l
theorem zamh {M : Int} : ∀ {l : List Int}, (∀ q ∈ l, 0 ≤ q ∧ q ≤ M) → 0 ≤ sumL l ∧ sumL l ≤ M * l.length
 | [], _ => by simp [sumL]
 | a :: l, h => by
  have h1 := h a (List.mem_cons_self ..)
  have h2 := zamh fun q hq => h q (List.mem_cons_of_mem _ hq)
  simp only [sumL, List.length_cons]
  have : M * ((l.length + 1 : Nat) : Int) = M * l.length + M := by rw [Int.natCast_add, Int.mul_add]; simp
  rw [this]
  omega
theorem zgn {n : Nat} (h : n ≤ 1000) : roomOk 8 n = true := by simp [roomOk]; omega
theorem zzv (hs : List Int) {k : Int} : ∀ (bs : List GPriceBoard) (i : Int) (acc hr : List Int), 0 ≤ i → hs.drop i.toNat = hr → hr.length = bs.length → acc.length + bs.length ≤ 1000 → zao hs k bs i acc = some (.go (acc ++ qsP k bs hr))
 | [], i, acc, [], _, _, _, _ => by simp [zao, qsP]
 | b :: bs, i, acc, h :: hr, h0, hd, hl, hn => by
  simp only [zao, zak h0 hd, Option.bind_some, g_kq]
  rw [zgn (by simp at hn ⊢; omega), cond_true, zzv hs bs (i + 1) _ hr (by omega) (zax h0 hd) (by simpa using hl) (by simp at hn ⊢; omega)]
  simp [qsP, qtyP]
structure Fit (bs : List GPriceBoard) (hs : List Int) : Prop where
 len : hs.length = bs.length
 few : bs.length ≤ 4
 q : ∀ k, ∀ q ∈ qsP k bs hs, 0 ≤ q ∧ q ≤ 60
theorem zkw {s : GPriceSheet} {t : GPriceTariff} (ht : TOk t) {hs : List Int} (hf : Fit s.Boards hs) : zbd s t hs = some (qsP t.Kind s.Boards hs) := by
 unfold zbd zfx
 rw [decide_eq_true ht.k.1, decide_eq_true ht.k.2]
 simp only [Bool.and_self, cond_true, Option.bind_some]
 rw [zgj (by have := hf.few; omega), zzv hs s.Boards 0 [] hs (Int.le_refl _) rfl hf.len (by have := hf.few; simp; omega)]
 rfl
theorem zwu (s : GPriceSheet) {t : GPriceTariff} (ht : TOk t) (hs : List Int) : ∀ (qs : List Int) (i : Int) (acc : List Int) (l : List (Gpricebill × Int)), (∀ q ∈ qs, 0 ≤ q ∧ q ≤ 240) → acc.length + qs.length ≤ 1000 → InvM l → ∃ l', zas s t hs qs i acc l = some (.go (acc ++ qs.map (rdT t), l')) ∧ InvM l'
 | [], i, acc, l, _, _, hl => ⟨l, by simp [zas], hl⟩
 | q :: qs, i, acc, l, hq, hn, hl => by
  have h1 := hq q (List.mem_cons_self ..)
  obtain ⟨l1, e1, hl1⟩ := zaat s ht hs h1.1 h1.2 hl
  simp only [zas, e1, Option.bind_some]
  rw [zgn (by simp at hn ⊢; omega), cond_true]
  obtain ⟨l2, e2, hl2⟩ := zwu s ht hs qs (i + 1) (acc ++ [rdT t q]) l1 (fun q hq' => hq q (List.mem_cons_of_mem _ hq')) (by simp at hn ⊢; omega) hl1
  exact ⟨l2, by rw [e2]; simp, hl2⟩
def partsP (t : GPriceTariff) (bs : List GPriceBoard) (hs : List Int) : List Int := (qsP t.Kind bs hs).map (rdT t)
theorem zaek {s : GPriceSheet} {t : GPriceTariff} (ht : TOk t) {hs : List Int} (hf : Fit s.Boards hs) {l : List (Gpricebill × Int)} (hl : InvM l) : ∃ l', zcb s t hs l = some (partsP t s.Boards hs, l') ∧ InvM l' := by
 have hn := zqk (k := t.Kind) hf.len
 have hfew := hf.few
 obtain ⟨l1, e1, hl1⟩ := zwu s ht hs (qsP t.Kind s.Boards hs) 0 [] l (fun q hq => by have := hf.q _ q hq; omega) (by simp; omega) hl
 unfold zcb
 rw [zkw ht hf, Option.bind_some, zgj (by omega), e1]
 exact ⟨l1, rfl, hl1⟩
theorem zaqp : ∀ (p : List Int) (i a : Int), (∀ q ∈ p, 0 ≤ q ∧ q ≤ 1000000) → 0 ≤ a → a + 1000000 * p.length ≤ 1000000000000 → zfg p i a = some (.go (a + sumL p))
 | [], i, a, _, _, _ => by simp [zfg, sumL]
 | q :: p, i, a, h, h0, hn => by
  have h1 := h q (List.mem_cons_self ..)
  simp only [List.length_cons, Int.natCast_add, Int.mul_add] at hn
  simp only [zfg]
  rw [zco (by omega) (by omega), zaqp p (i + 1) (a + q) (fun q hq => h q (List.mem_cons_of_mem _ hq)) (by omega) (by omega)]
  simp only [sumL]
  rw [Int.add_assoc]
theorem zahg : ∀ (p : List Int) (i a : Int), (∀ q ∈ p, 0 ≤ q ∧ q ≤ 1000000) → 0 ≤ a → a + 1000000 * p.length ≤ 1000000000000 → zdi p i a = some (.go (a + sumL p))
 | [], i, a, _, _, _ => by simp [zdi, sumL]
 | q :: p, i, a, h, h0, hn => by
  have h1 := h q (List.mem_cons_self ..)
  simp only [List.length_cons, Int.natCast_add, Int.mul_add] at hn
  simp only [zdi]
  rw [zco (by omega) (by omega), zahg p (i + 1) (a + q) (fun q hq => h q (List.mem_cons_of_mem _ hq)) (by omega) (by omega)]
  simp only [sumL]
  rw [Int.add_assoc]
theorem zaqs {p : List Int} (h : ∀ q ∈ p, 0 ≤ q ∧ q ≤ 1000000) (hn : p.length ≤ 1000) : zke p = some (sumL p) := by
 unfold zke
 rw [zgj (by omega), zaqp p 0 0 h (Int.le_refl _) (by omega), Int.zero_add]
 rfl
theorem zaqi {p : List Int} (h : ∀ q ∈ p, 0 ≤ q ∧ q ≤ 1000000) (hn : p.length ≤ 1000) : zha p = some (sumL p) := by
 unfold zha
 rw [zgj (by omega), zahg p 0 0 h (Int.le_refl _) (by omega), Int.zero_add]
 rfl
def paidP (t : GPriceTariff) (bs : List GPriceBoard) (hs : List Int) : Int := if t.Each then sumL (partsP t bs hs) else rdT t (sumL (qsP t.Kind bs hs))
theorem zagy {t : GPriceTariff} (ht : TOk t) {bs : List GPriceBoard} {hs : List Int} (hf : Fit bs hs) : ∀ x ∈ partsP t bs hs, 0 ≤ x ∧ x ≤ 30000 := by
 intro x hx
 obtain ⟨q, hq, rfl⟩ := List.mem_map.1 hx
 have := hf.q _ q hq
 have := rdT_b ht this.1 this.2
 omega
theorem zwn {t : GPriceTariff} {bs : List GPriceBoard} {hs : List Int} (hf : Fit bs hs) : (partsP t bs hs).length = bs.length := by
 unfold partsP; rw [List.length_map, zqk hf.len]
theorem zaig {k : Int} {bs : List GPriceBoard} {hs : List Int} (hf : Fit bs hs) : 0 ≤ sumL (qsP k bs hs) ∧ sumL (qsP k bs hs) ≤ 240 := by
 have := zamh (hf.q k)
 have h2 := zqk (k := k) hf.len
 have := hf.few
 omega
theorem zzr {s : GPriceSheet} {t : GPriceTariff} (ht : TOk t) {hs : List Int} (hf : Fit s.Boards hs) {l : List (Gpricebill × Int)} (hl : InvM l) : ∃ l', zbp s t hs l = some (paidP t s.Boards hs, l') ∧ InvM l' := by
 have hfew := hf.few
 unfold zbp paidP
 cases t.Each with
 | true =>
  obtain ⟨l1, e1, hl1⟩ := zaek ht hf hl
  have hn := zwn (t := t) hf
  rw [e1]
  simp only [cond_true, Option.bind_some, if_true]
  rw [zaqs (fun q hq => by have := zagy ht hf q hq; omega) (by omega)]
  exact ⟨l1, rfl, hl1⟩
 | false =>
  have hn := zqk (k := t.Kind) hf.len
  have hq := zaig (k := t.Kind) hf
  rw [zkw ht hf]
  simp only [cond_false, Option.bind_some, Bool.false_eq_true, if_false]
  rw [zaqs (fun q hq => by have := hf.q _ q hq; omega) (by omega)]
  obtain ⟨l1, e1, hl1⟩ := zaat s ht hs hq.1 hq.2 hl
  simp only [Option.bind_some, e1]
  exact ⟨l1, rfl, hl1⟩
theorem zov (b : GPriceBoard) (k h : Int) : zcm b k h = some (qtyP k b h) := by
 unfold zcm qtyP
 by_cases h1 : k = 1
 ·simp [h1]
 ·rw [show (k == 1) = false from by simpa using h1, cond_false, if_neg h1]
  by_cases h2 : k = 2
  ·simp [h2]
  ·rw [show (k == 2) = false from by simpa using h2, cond_false, if_neg h2]
   by_cases h3 : k = 3
   ·simp [h3]
   ·rw [show (k == 3) = false from by simpa using h3, cond_false, if_neg h3]
theorem zwy {t : GPriceTariff} (ht : TOk t) (hs : List Int) : ∀ (bs : List GPriceBoard) (i : Int) (acc hr : List Int), 0 ≤ i → hs.drop i.toNat = hr → hr.length = bs.length → acc.length + bs.length ≤ 1000 → (∀ q ∈ qsP t.Kind bs hr, 0 ≤ q ∧ q ≤ 60) → zbv t hs bs i acc = some (.go (acc ++ partsP t bs hr))
 | [], i, acc, [], _, _, _, _, _ => by simp [zbv, partsP, qsP]
 | b :: bs, i, acc, h :: hr, h0, hd, hl, hn, hq => by
  have h1 := hq _ (List.mem_cons_self ..)
  simp only [zbv, zak h0 hd, Option.bind_some, zov]
  rw [zqp ht h1.1 (by omega)]
  simp only [Option.bind_some]
  rw [zgn (by simp at hn ⊢; omega), cond_true, zwy ht hs bs (i + 1) _ hr (by omega) (zax h0 hd) (by simpa using hl) (by simp at hn ⊢; omega) (fun q hq' => hq q (List.mem_cons_of_mem _ hq'))]
  simp [partsP, qsP]
theorem zaes {s : GPriceSheet} {t : GPriceTariff} (ht : TOk t) {hs : List Int} (hf : Fit s.Boards hs) : zfo s t hs = some (partsP t s.Boards hs) := by
 have hfew := hf.few
 unfold zfo
 rw [zgj (by omega), zwy ht hs s.Boards 0 [] hs (Int.le_refl _) rfl hf.len (by simp; omega) (hf.q _)]
 rfl
theorem zvu {t : GPriceTariff} (hs : List Int) : ∀ (bs : List GPriceBoard) (i : Int) (a : Int) (hr : List Int), 0 ≤ i → hs.drop i.toNat = hr → hr.length = bs.length → (∀ q ∈ qsP t.Kind bs hr, 0 ≤ q ∧ q ≤ 60) → 0 ≤ a → a + 60 * bs.length ≤ 1000000 → zay t hs (-1) bs i a = some (.go (a + sumL (qsP t.Kind bs hr)))
 | [], i, a, [], _, _, _, _, _, _ => by simp [zay, qsP, sumL]
 | b :: bs, i, a, h :: hr, h0, hd, hl, hq, ha, hn => by
  have h1 := hq _ (List.mem_cons_self ..)
  simp only [List.length_cons, Int.natCast_add, Int.mul_add] at hn
  simp only [zay, zak h0 hd, Option.bind_some, zov, show decide ((-1 : Int) < 0) = true from rfl, cond_true]
  rw [zco (by omega) (by omega), zvu hs bs (i + 1) _ hr (by omega) (zax h0 hd) (by simpa using hl) (fun q hq' => hq q (List.mem_cons_of_mem _ hq')) (by omega) (by omega)]
  simp only [qsP, sumL]
  rw [Int.add_assoc]
theorem zpk {s : GPriceSheet} {t : GPriceTariff} (ht : TOk t) {hs : List Int} (hf : Fit s.Boards hs) : zdu s t hs = some (paidP t s.Boards hs) := by
 have hfew := hf.few
 have hq := zaig (k := t.Kind) hf
 unfold zdu paidP zed
 cases t.Each with
 | true =>
  have hn := zwn (t := t) hf
  rw [zaes ht hf]
  simp only [cond_true, Option.bind_some, if_true]
  rw [zaqi (fun q hq => by have := zagy ht hf q hq; omega) (by omega)]
  rfl
 | false =>
  rw [zgj (by omega), zvu hs s.Boards 0 0 hs (Int.le_refl _) rfl hf.len (hf.q _) (Int.le_refl _) (by omega)]
  simp only [cond_true, cond_false, zkj, Option.bind_some, Int.zero_add, Bool.false_eq_true, if_false]
  rw [zqp ht hq.1 hq.2]
  rfl
end Go.V
end
section
namespace Go.V
open Go Go.Proofs
def zdt (x0_s : GPriceSheet) (x1_tariff : Int) (x2_hours : List Int) : Option (Int × Int) := Option.bind (zcq x0_s) (fun r1 => cond (r1) (Option.bind (zck x0_s x1_tariff) (fun r2 => cond (r2) (Option.bind (zcy x0_s x2_hours) (fun r3 => cond (r3) (Option.bind (getI x0_s.Tariffs x1_tariff) (fun x4 => Option.bind (zbp x0_s x4 x2_hours ([] : List (Gpricebill × Int))) (fun r5 => some (r5.1, 0)))) (some (0, 2)))) (some (0, 2)))) (some (0, 2)))
theorem zmn (x0_s : GPriceSheet) (x1_tariff : Int) (x2_hours : List Int) (R : Int × Int) (h : zdt x0_s x1_tariff x2_hours = some R) : VPure Tryz.prog G0 24 [.agg (cGPriceSheet x0_s), .lit (.int .i64 x1_tariff), .sl (cellsL eI x2_hours) (List.length x2_hours) false] (.tree (.tup [.lit (.int .i64 R.1), .lit (.int .i64 R.2)])) := by
 refine VPure.runR mixed Tryz.call24 Tryz.func24 rfl (by simp [Tryz.ntmps24]; kernel_rfl) ?_
 obtain ⟨KF, h, kF, kN⟩ := zaq h
 simp only [zdt] at h
 obtain ⟨r6, o7, h⟩ := optI h kN
 try simp only [hs] at h
 simp only [vz, mq, mqm, vsi, tyf, mqt, nm, seval]
 refine ktree (args0 := [.agg (cGPriceSheet x0_s)]) (by first | (simp only [nrm, tynrm, @zbh] <;> rfl) | rfl) (by simp only [tre, tytre, mqr, Bool.and_self]) (zff _ _ o7) ?_
 refine zar (fun tm => tm 1 = .lit (.int .i64 x1_tariff) ∧ tm 2 = .sl (cellsL eI x2_hours) (List.length x2_hours) false ∧ tm 3 = .ptr 0 0 ∧ tm 9 = .lit (.bool r6) ∧ True) (by refine ⟨?_, ?_, ?_, ?_, trivial⟩ <;> first | (simp only [ua, zbk, nm, seval] <;> rfl) | rfl) ?_
 rintro tm ⟨e8, e9, e10, e11, _⟩
 cases d12 : (r6)
 ·simp only [d12, hs] at h
  try simp only [vz, mq, mqm, vsi, tyf, mqt, e8, e9, e10, e11, d12, nm, seval]
  refine zau (x := (.tup [.lit (.int .i64 0), .lit (.int .i64 2)])) (by first | (simp only [Tryz.results24, resV, resL, resV1, zat, zbu, uw, cr, tyf, mqt, d12, nm, seval] <;> rfl) | rfl) ?_
  obtain rfl := kF _ h
  refine zbc ?_ ?_
  ·simp only [tre, tytre, mqr, Bool.and_self]
  ·first | (simp only [outV, uw, zan, cr, tyf, mqt, nrm, tynrm, e8, e9, e10, e11, d12, nm, seval] <;> rfl) | rfl
 simp only [d12, hs] at h
 obtain ⟨r13, o14, h⟩ := optI h kN
 try simp only [hs] at h
 simp only [vz, mq, mqm, vsi, tyf, mqt, e8, e9, e10, e11, d12, nm, seval]
 refine ktree (args0 := [.agg (cGPriceSheet x0_s), .lit (.int .i64 x1_tariff)]) (by first | (simp only [nrm, tynrm, @zbh] <;> rfl) | rfl) (by simp only [tre, tytre, mqr, Bool.and_self]) (zfs _ _ _ o14) ?_
 refine zar (fun tm => tm 1 = .lit (.int .i64 x1_tariff) ∧ tm 2 = .sl (cellsL eI x2_hours) (List.length x2_hours) false ∧ tm 3 = .ptr 0 0 ∧ tm 11 = .lit (.bool false) ∧ tm 14 = .lit (.bool r13) ∧ True) (by refine ⟨e8, e9, e10, ?_, ?_, trivial⟩ <;> first | (simp only [ua, zbk, e8, e9, e10, e11, d12, nm, seval] <;> rfl) | rfl) ?_
 rintro tm ⟨e15, e16, e17, e18, e19, _⟩
 cases d20 : (r13)
 ·simp only [d20, hs] at h
  try simp only [vz, mq, mqm, vsi, tyf, mqt, d12, e15, e16, e17, e18, e19, d20, nm, seval]
  refine zau (x := (.tup [.lit (.int .i64 0), .lit (.int .i64 2)])) (by first | (simp only [Tryz.results24, resV, resL, resV1, zat, zbu, uw, cr, tyf, mqt, d12, d20, nm, seval] <;> rfl) | rfl) ?_
  obtain rfl := kF _ h
  refine zbc ?_ ?_
  ·simp only [tre, tytre, mqr, Bool.and_self]
  ·first | (simp only [outV, uw, zan, cr, tyf, mqt, nrm, tynrm, d12, e15, e16, e17, e18, e19, d20, nm, seval] <;> rfl) | rfl
 simp only [d20, hs] at h
 obtain ⟨r21, o22, h⟩ := optI h kN
 try simp only [hs] at h
 simp only [vz, mq, mqm, vsi, tyf, mqt, d12, e15, e16, e17, e18, e19, d20, nm, seval]
 refine ktree (args0 := [.agg (cGPriceSheet x0_s), .sl (cellsL eI x2_hours) (List.length x2_hours) false]) (by first | (simp only [nrm, tynrm, @zbh] <;> rfl) | rfl) (by simp only [tre, tytre, mqr, Bool.and_self]) (zio _ _ _ o22) ?_
 refine zar (fun tm => tm 1 = .lit (.int .i64 x1_tariff) ∧ tm 2 = .sl (cellsL eI x2_hours) (List.length x2_hours) false ∧ tm 3 = .ptr 0 0 ∧ tm 17 = .lit (.bool false) ∧ tm 20 = .lit (.bool r21) ∧ True) (by refine ⟨e15, e16, e17, ?_, ?_, trivial⟩ <;> first | (simp only [ua, zbk, d12, e15, e16, e17, e18, e19, d20, nm, seval] <;> rfl) | rfl) ?_
 rintro tm ⟨e23, e24, e25, e26, e27, _⟩
 cases d28 : (r21)
 ·simp only [d28, hs] at h
  try simp only [vz, mq, mqm, vsi, tyf, mqt, d12, d20, e23, e24, e25, e26, e27, d28, nm, seval]
  refine zau (x := (.tup [.lit (.int .i64 0), .lit (.int .i64 2)])) (by first | (simp only [Tryz.results24, resV, resL, resV1, zat, zbu, uw, cr, tyf, mqt, d12, d20, d28, nm, seval] <;> rfl) | rfl) ?_
  obtain rfl := kF _ h
  refine zbc ?_ ?_
  ·simp only [tre, tytre, mqr, Bool.and_self]
  ·first | (simp only [outV, uw, zan, cr, tyf, mqt, nrm, tynrm, d12, d20, e23, e24, e25, e26, e27, d28, nm, seval] <;> rfl) | rfl
 simp only [d28, hs] at h
 try simp only [vz, mq, mqm, vsi, tyf, mqt, d12, d20, e23, e24, e25, e26, e27, d28, nm, seval]
 refine kopen ?_
 rw [zacu]
 refine VOpen.run mixed Tryz.call66 Tryz.func66 rfl (by simp [Tryz.ntmps66]; kernel_rfl) ?_
 simp only [vz, mq, mqm, vsi, tyf, mqt, d12, d20, d28, nm, seval]
 refine zdb (fun tm => tm 1 = .lit (.int .i64 x1_tariff) ∧ tm 2 = .sl (cellsL eI x2_hours) (List.length x2_hours) false ∧ tm 3 = .ptr 25 0 ∧ tm 6 = .ptr 26 0 ∧ True) (by refine ⟨?_, ?_, ?_, ?_, trivial⟩ <;> first | (simp only [ua, zbk, d12, d20, d28, nm, seval] <;> rfl) | rfl) ?_
 rintro tm ⟨e29, e30, e31, e32, _⟩
 obtain ⟨x33, o34, h⟩ := optI h kN
 try simp only [hs] at h
 simp only [vz, mq, mqm, vsi, tyf, mqt, d12, d20, d28, e29, e30, e31, e32, (ix24 o34), nm, seval]
 refine zee ⟨?_, ?_⟩
 ·simp only [zcl, zde, zbb, zfc, and_true, true_and]
  repeat' (first | exact trivial | refine And.intro ?_ ?_ | rw [zbb] | rw [zeb] | exact Or.inl (by decide +kernel) | exact Or.inl (by dsimp only; decide +kernel) | (refine Or.inr ⟨?_, ?_⟩ <;> simp; done) | (refine Or.inr ⟨?_, ?_⟩ <;> simp <;> omega) | (refine Or.inr ⟨?_, ?_⟩ <;> simp [VEff.wr] <;> omega))
 try simp only [vz, mq, mqm, vsi, tyf, mqt, d12, d20, d28, e29, e30, e31, e32, (ix24 o34), nm, seval]
 refine zau (x := (.agg ((cGPriceSheet x0_s) ++ (cGPriceTariff x33) ++ [.sl (cellsL eI x2_hours) (List.length x2_hours) false] ++ [.mp 34]))) (by first | (simp only [Tryz.results66, resV, resL, resV1, zat, zbu, uw, cr, tyf, mqt, d12, d20, d28, e29, e30, e31, e32, (ix24 o34), nm, seval] <;> rfl) | rfl) ?_
 obtain ⟨r35, o36, h⟩ := optI h kN
 try simp only [hs] at h
 simp only [vz, mq, mqm, vsi, tyf, mqt, d12, d20, d28, (ix24 o34), e23, e24, e25, e26, e27, nm, seval]
 refine kupd (VUpd.at (β := 34) (y := (fun _ => .lit (.int .i64 r35.1))) (zdh _ _ _ _ _ o36) (by omega) (by first | rfl | assumption | (simp only [zab, zaa, nm, seval] <;> rfl)) (by first | rfl | (simp only [nrm, tynrm, @zbh, @zhc] <;> rfl)) (zgs (fun _ => rfl) _)) ?_
 refine zhi (fun tm => tm 27 = .lit (.int .i64 r35.1) ∧ True) (by refine ⟨?_, trivial⟩ <;> first | (simp only [ua, zbk, d12, d20, d28, e23, e24, e25, e26, e27, nm, seval] <;> rfl) | rfl) ?_
 rintro tm ⟨e37, _⟩
 try simp only [vz, mq, mqm, vsi, tyf, mqt, d12, d20, d28, (ix24 o34), e37, nm, seval]
 refine zau (x := (.tup [.lit (.int .i64 r35.1), .lit (.int .i64 0)])) (by first | (simp only [Tryz.results24, resV, resL, resV1, zat, zbu, uw, cr, tyf, mqt, d12, d20, d28, (ix24 o34), nm, seval] <;> rfl) | rfl) ?_
 obtain rfl := kF _ h
 refine zbc ?_ ?_
 ·simp only [tre, tytre, mqr, Bool.and_self]
 ·first | (simp only [outV, uw, zan, cr, tyf, mqt, nrm, tynrm, d12, d20, d28, (ix24 o34), e37, nm, seval] <;> rfl) | rfl
def zcr (x0_x_PriceSheet : GPriceSheet) (x0_x_tariff : GPriceTariff) (x0_x_hours : List Int) (x1_hours : List Int) : Option (GPriceSheet × GPriceTariff × (List Int)) := some (x0_x_PriceSheet, x0_x_tariff, x1_hours)
theorem zhk (x0_x_PriceSheet : GPriceSheet) (x0_x_tariff : GPriceTariff) (x0_x_hours : List Int) (x1_hours : List Int) (b : Nat) (R : GPriceSheet × GPriceTariff × (List Int)) (h : zcr x0_x_PriceSheet x0_x_tariff x0_x_hours x1_hours = some R) : VPure Tryz.prog G0 68 [.agg [.sl (cellsL eI x0_x_PriceSheet.Offs) (List.length x0_x_PriceSheet.Offs) false, .sl (cellsL cGPriceBoard x0_x_PriceSheet.Boards) (List.length x0_x_PriceSheet.Boards) false, .sl (cellsL cGPriceTariff x0_x_PriceSheet.Tariffs) (List.length x0_x_PriceSheet.Tariffs) false, .lit (.int .i64 x0_x_tariff.Kind), .lit (.int .i64 x0_x_tariff.Coins), .lit (.int .i64 x0_x_tariff.Units), .lit (.int .i64 x0_x_tariff.Rule), .lit (.bool x0_x_tariff.Each), .sl (cellsL eI x0_x_hours) (List.length x0_x_hours) false, .lit (.map (some b))], .sl (cellsL eI x1_hours) (List.length x1_hours) false] (.tree (.agg [.sl (cellsL eI R.1.Offs) (List.length R.1.Offs) false, .sl (cellsL cGPriceBoard R.1.Boards) (List.length R.1.Boards) false, .sl (cellsL cGPriceTariff R.1.Tariffs) (List.length R.1.Tariffs) false, .lit (.int .i64 R.2.1.Kind), .lit (.int .i64 R.2.1.Coins), .lit (.int .i64 R.2.1.Units), .lit (.int .i64 R.2.1.Rule), .lit (.bool R.2.1.Each), .sl (cellsL eI R.2.2) (List.length R.2.2) false, .lit (.map (some b))])) := by
 refine VPure.runR mixed Tryz.call68 Tryz.func68 rfl (by simp [Tryz.ntmps68]; kernel_rfl) ?_
 obtain ⟨KF, h, kF, kN⟩ := zaq h
 simp only [zcr] at h
 try simp only [vz, vsi, tyf, nm, seval]
 refine zau (x := (.agg ((cGPriceSheet x0_x_PriceSheet) ++ (cGPriceTariff x0_x_tariff) ++ [.sl (cellsL eI x1_hours) (List.length x1_hours) false] ++ [.lit (.map (some b))]))) (by first | (simp only [Tryz.results68, resV, resL, resV1, zat, zbu, uw, cr, tyf, nm, seval] <;> rfl) | rfl) ?_
 obtain rfl := kF _ h
 refine zbc ?_ ?_
 ·simp only [tre, tytre, Bool.and_self]
 ·first | (simp only [outV, uw, zan, cr, tyf, nrm, tynrm, nm, seval] <;> rfl) | rfl
end Go.V
end
