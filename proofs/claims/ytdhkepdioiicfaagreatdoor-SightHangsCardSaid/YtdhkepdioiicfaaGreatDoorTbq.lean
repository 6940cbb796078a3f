/- Part of a proof: a logic of values by content, lifted functions, what follows. -/
import Derived.Test.YtdhkepdioiicfaaGreatDoorTbf
import Derived.Test.YtdhkepdioiicfaaGreatDoorTbi
import Derived.Test.YtdhkepdioiicfaaGreatDoorTbm
import Derived.Test.YtdhkepdioiicfaaGreatDoorTbn
import Derived.Test.YtdhkepdioiicfaaGreatDoorTbp
import Derived.Test.YtdhkepdioiicfaaGreatDoorTay
import Derived.Test.YtdhkepdioiicfaaGreatDoorProg
import Derived.Test.YtdhkepdioiicfaaGreatDoorTbj
set_option linter.all false
set_option maxRecDepth 4000
set_option maxHeartbeats 4000000
section
namespace Go.V
open Go Go.Proofs
def g_ref02_Moved (x0_b : GSightBoard) (x1_at : Int) : Option (GSightBoard) := some (GSightBoard.mk x1_at x0_b.Letters)
theorem g_ref02_Moved_ok (x0_b : GSightBoard) (x1_at : Int) (R : GSightBoard) (h : g_ref02_Moved x0_b x1_at = some R) : VPure Tryz.prog G0 36 [.agg (cGSightBoard x0_b), .lit (.int .i64 x1_at)] (.tree (.agg (cGSightBoard R))) := by
 refine VPure.runR mixed Tryz.call36 Tryz.func36 rfl (by simp [Tryz.ntmps36]; kernel_rfl) ?_
 obtain ⟨KF, h, kF, kN⟩ := fun_intro h
 simp only [g_ref02_Moved] at h
 try simp only [vz, tyf, nm, seval]
 refine opd_ret (x := (.agg ([.lit (.int .i64 x1_at)] ++ [.sl (cellsL cGSightLetter x0_b.Letters) (List.length x0_b.Letters) false]))) (by first | (simp only [Tryz.results36, resV, resL, resV1, tgt_ptr, tgt_tp, uw, cr, tyf, nm, seval] <;> rfl) | rfl) ?_
 obtain rfl := kF _ h
 refine rr_tree ?_ ?_
 ·simp only [tre, tytre, Bool.and_self]
 ·first | (simp only [outV, uw, showV_ref, cr, tyf, nrm, tynrm, nm, seval] <;> rfl) | rfl
end Go.V
end
section
namespace Go.V
open Go Go.Proofs
def g_ref02_Hang_l0 (x0_s : GSightStreet) (x1_b : GSightBoard) : Nat → Int → Int → Int → Option (LOut (Int × Int) (Int × Int × Int))
 | 0, _, _, _ => none
 | k0 + 1, c0_6, c0_7, c0_8 => cond (decide (c0_8 ≤ x0_s.Length)) (Option.bind (g_ref02_Moved x1_b c0_8) (fun r1 => Option.bind (g_ref02_From x0_s r1) (fun r2 => cond (decide ((List.length r2 : Int) > c0_7)) (g_ref02_Hang_l0 x0_s x1_b k0 c0_8 (List.length r2 : Int) (IntKind.i64.wrap (c0_8 + 1))) (g_ref02_Hang_l0 x0_s x1_b k0 c0_6 c0_7 (IntKind.i64.wrap (c0_8 + 1)))))) (some (.go (c0_6, c0_7, c0_8)))
def g_ref02_Hang (x0_s : GSightStreet) (x1_b : GSightBoard) : Option (Int × Int) := lbind (g_ref02_Hang_l0 x0_s x1_b 1000000 0 (-1) 0) (fun r4 => some r4) (fun c3 => some (c3.1, c3.2.1)) (fun _ _ => none)
theorem g_ref02_Hang_ok (x0_s : GSightStreet) (x1_b : GSightBoard) (R : Int × Int) (h : g_ref02_Hang x0_s x1_b = some R) : VPure Tryz.prog G0 35 [.agg (cGSightStreet x0_s), .agg (cGSightBoard x1_b)] (.tree (.tup [.lit (.int .i64 R.1), .lit (.int .i64 R.2)])) := by
 refine VPure.runR mixed Tryz.call35 Tryz.func35 rfl (by simp [Tryz.ntmps35]; kernel_rfl) ?_
 obtain ⟨KF, h, kF, kN⟩ := fun_intro h
 simp only [g_ref02_Hang] at h
 simp only [vz, mq, mqm, tyf, mqt, nm, seval]
 obtain ⟨K5, h, kR5, kG5, kB5, kN5⟩ := lbind_intro h kN
 obtain ⟨f5, hf5, h⟩ := call4 h
 obtain ⟨I5, hI5⟩ : ∃ I : Nat → St → Prop, I = (fun m st => ∃ (p5 : Nat) (c5_6 : Int) (c5_7 : Int) (c5_8 : Int), p5 = m ∧ st.df = [] ∧ 7 ≤ st.nx ∧ st.H 0 = some (.cells (some 27) (cGSightStreet x0_s)) ∧ st.H 1 = some (.cells (some 40) (cGSightBoard x1_b)) ∧ st.tm 2 = .ptr 0 0 ∧ st.tm 3 = .ptr 1 0 ∧ st.tm 6 = .lit (.int .i64 c5_6) ∧ st.tm 7 = .lit (.int .i64 c5_7) ∧ st.tm 8 = .lit (.int .i64 c5_8) ∧ K5 (f5 p5 c5_6 c5_7 c5_8)) := ⟨_, rfl⟩
 refine loopK mixed (by kernel_rfl) I5 1000000 (by rw [hI5]; refine ⟨1000000, 0, (-1), 0, rfl, rfl, (show 7 ≤ 7 by omega), ?_, ?_, ?_, ?_, ?_, ?_, ?_, h⟩ <;> first | (simp only [ua, encM_nil, nm, seval] <;> rfl) | rfl) ?_
 rintro m ⟨tm, H, nx5, df⟩ hinv
 rw [hI5] at hinv
 obtain ⟨p5, c5_6, c5_7, c5_8, rfl, hdf, hn5, H6, H7, e8, e9, e10, e11, e12, h⟩ := hinv
 simp only at hdf hn5 H6 H7 e8 e9 e10 e11 e12
 have n13 := base_ne0 (m := 7) (b := nx5) (by omega)
 subst hdf hf5
 cases p5 with
 | zero =>
  simp only [g_ref02_Hang_l0, hs, reduceCtorEq] at h
  exact absurd h kN5
 | succ p5 =>
  simp only [g_ref02_Hang_l0, hs, reduceCtorEq] at h
  cases d14 : (decide (c5_8 ≤ x0_s.Length))
  ·simp only [d14, hs] at h
   replace h := kG5 _ h
   try dsimp only at h
   try simp only [hs] at h
   try simp only [vz, mq, mqm, tyf, mqt, n13, e8, e9, e10, e11, e12, H6, H7, d14, nm, seval]
   refine opd_ret (x := (.tup [.lit (.int .i64 c5_6), .lit (.int .i64 c5_7)])) (by first | (simp only [Tryz.results35, resV, resL, resV1, tgt_ptr, tgt_tp, uw, cr, tyf, mqt, n13, H6, H7, d14, nm, seval] <;> rfl) | rfl) ?_
   obtain rfl := kF _ h
   refine rr_tree ?_ ?_
   ·simp only [tre, tytre, Bool.and_self]
   ·first | (simp only [outV, uw, showV_ref, cr, tyf, mqt, nrm, tynrm, n13, e8, e9, e10, e11, e12, H6, H7, d14, nm, seval] <;> rfl) | rfl
  simp only [d14, hs] at h
  simp only [vz, mq, mqm, tyf, mqt, n13, e8, e9, e10, e11, e12, H6, H7, d14, nm, seval]
  refine cwp_drwQF (fun tm => tm 2 = .ptr 0 0 ∧ tm 3 = .ptr 1 0 ∧ tm 6 = .lit (.int .i64 c5_6) ∧ tm 7 = .lit (.int .i64 c5_7) ∧ tm 8 = .lit (.int .i64 c5_8) ∧ True) (by refine ⟨e8, e9, e10, e11, e12, trivial⟩ <;> first | (simp only [ua, encM_nil, n13, e8, e9, e10, e11, e12, H6, H7, d14, nm, seval] <;> rfl) | rfl) ?_
  rintro tm ⟨e15, e16, e17, e18, e19, _⟩
  rcases o21 : (g_ref02_Moved x1_b c5_8) with _ | r20
  ·simp only [o21, hs] at h
   exact absurd h kN5
  simp only [o21, hs] at h
  simp only [vz, mq, mqm, tyf, mqt, n13, H6, H7, d14, e15, e16, e17, e18, e19, nm, seval]
  refine dktree (args0 := [.agg (cGSightBoard x1_b), .lit (.int .i64 c5_8)]) (by first | (simp only [nrm, tynrm] <;> rfl) | rfl) (by simp only [tre, tytre, Bool.and_self]) (g_ref02_Moved_ok _ _ _ o21) ?_
  refine fin_cut (fun tm => tm 2 = .ptr 0 0 ∧ tm 3 = .ptr 1 0 ∧ tm 6 = .lit (.int .i64 c5_6) ∧ tm 7 = .lit (.int .i64 c5_7) ∧ tm 8 = .lit (.int .i64 c5_8) ∧ tm 16 = .agg (cGSightStreet x0_s) ∧ tm 19 = .agg (cGSightBoard r20) ∧ True) (by refine ⟨e15, e16, e17, e18, e19, ?_, ?_, trivial⟩ <;> first | (simp only [ua, encM_nil, n13, H6, H7, d14, e15, e16, e17, e18, e19, nm, seval] <;> rfl) | rfl) ?_
  rintro tm ⟨e22, e23, e24, e25, e26, e27, e28, _⟩
  rcases o30 : (g_ref02_From x0_s r20) with _ | r29
  ·simp only [o30, hs] at h
   exact absurd h kN5
  simp only [o30, hs] at h
  simp only [vz, mq, mqm, tyf, mqt, n13, H6, H7, d14, e22, e23, e24, e25, e26, e27, e28, nm, seval]
  refine dktree (args0 := [.agg (cGSightStreet x0_s), .agg (cGSightBoard r20)]) (by first | (simp only [nrm, tynrm] <;> rfl) | rfl) (by simp only [tre, tytre, Bool.and_self]) (g_ref02_From_ok _ _ _ o30) ?_
  refine fin_cut (fun tm => tm 2 = .ptr 0 0 ∧ tm 3 = .ptr 1 0 ∧ tm 6 = .lit (.int .i64 c5_6) ∧ tm 7 = .lit (.int .i64 c5_7) ∧ tm 8 = .lit (.int .i64 c5_8) ∧ tm 20 = .sl (cellsL cGSightPlace r29) (List.length r29) false ∧ True) (by refine ⟨e22, e23, e24, e25, e26, ?_, trivial⟩ <;> first | (simp only [ua, encM_nil, n13, H6, H7, d14, e22, e23, e24, e25, e26, e27, e28, nm, seval] <;> rfl) | rfl) ?_
  rintro tm ⟨e31, e32, e33, e34, e35, e36, _⟩
  cases d37 : (decide ((List.length r29 : Int) > c5_7))
  ·simp only [d37, hs] at h
   simp only [vz, mq, mqm, tyf, mqt, n13, H6, H7, d14, e31, e32, e33, e34, e35, e36, d37, nm, seval]
   exact ⟨p5, Nat.lt_succ_self _, by rw [hI5]; refine ⟨p5, c5_6, c5_7, IntKind.i64.wrap (c5_8 + 1), rfl, rfl, (show 7 ≤ nx5 + 17 by omega), ?_, ?_, e31, e32, e33, e34, ?_, h⟩ <;> first | (simp only [ua, encM_nil, n13, H6, H7, d14, e31, e32, e33, e34, e35, e36, d37, nm, seval] <;> rfl) | rfl⟩
  simp only [d37, hs] at h
  simp only [vz, mq, mqm, tyf, mqt, n13, H6, H7, d14, e31, e32, e33, e34, e35, e36, d37, nm, seval]
  exact ⟨p5, Nat.lt_succ_self _, by rw [hI5]; refine ⟨p5, c5_8, (List.length r29 : Int), IntKind.i64.wrap (c5_8 + 1), rfl, rfl, (show 7 ≤ nx5 + 21 by omega), ?_, ?_, e31, e32, ?_, ?_, ?_, h⟩ <;> first | (simp only [ua, encM_nil, n13, H6, H7, d14, e31, e32, e33, e34, e35, e36, d37, nm, seval] <;> rfl) | rfl⟩
end Go.V
end
section
namespace Go.V
open Go
abbrev hangB (b : GSightBoard) (c : Int) : GSightBoard := ⟨c, b.Letters⟩
def hangN (s : GSightStreet) (b : GSightBoard) (c : Int) : Int := (((allP s).filter (sureB s (hangB b c))).length : Int)
def hF (f : Int → Int) : Nat → Int → Int → Int → Bool → Int → Int × Int × Bool × Int
 | 0, c, o0, o1, o2, o3 => (o0, o1, o2, o3)
 | k + 1, c, o0, o1, o2, o3 => cond o2 (cond (decide (f c > o1)) (hF f k (c + 1) c (f c) true c) (hF f k (c + 1) o0 o1 true c)) (hF f k (c + 1) c (f c) true c)
def rF (f : Int → Int) : Nat → Int → Int → Int → Int × Int
 | 0, c, a, m => (a, m)
 | k + 1, c, a, m => cond (decide (f c > m)) (rF f k (c + 1) c (f c)) (rF f k (c + 1) a m)
theorem hF_rF (f : Int → Int) : ∀ (k : Nat) (c o0 o1 o3 : Int), (hF f k c o0 o1 true o3).1 = (rF f k c o0 o1).1 ∧ (hF f k c o0 o1 true o3).2.1 = (rF f k c o0 o1).2
 | 0, _, _, _, _ => ⟨rfl, rfl⟩
 | k + 1, c, o0, o1, o3 => by
  simp only [hF, rF, cond_true]
  cases decide (f c > o1) with
  | true => exact hF_rF f k _ _ _ _
  | false => exact hF_rF f k _ _ _ _
section
variable {s : GSightStreet} {b : GSightBoard}
theorem good_at {p : GSightPlace} {c : Int} (h : Good s b p) (h0 : 0 ≤ c) (h1 : c ≤ 40) : Good s (hangB b c) p :=
 ⟨h.el, h.em, h.eh, h.ll, h.lm, h.lh, h0, h1, h.n1, h.n5, h.lets, h.last, h.p0, h.p1, h.q0, h.q1, h.nb, h.blks⟩
theorem hg_l2 (t a : Int) : ∀ (k : Nat) (c o : Int), (∀ p ∈ rowP a k c, Good s (hangB b t) p) → 0 ≤ o → o + k ≤ 1000 → g_sight_Hang_l2 s b t a k c o = some (.go (o + ((rowP a k c).filter (sureB s (hangB b t))).length))
 | 0, c, o, h, h0, h1 => by simp [g_sight_Hang_l2, rowP]
 | k + 1, c, o, h, h0, h1 => by
  have ih := fun o' => hg_l2 t a k (c + 1) o' (fun p hp => h p (List.mem_cons_of_mem _ hp))
  simp only [g_sight_Hang_l2, surely_eq (fair_good (h _ (List.mem_cons_self ..))), Option.bind_some, rowP, List.filter_cons]
  cases sureB s (hangB b t) ⟨a, c + 1⟩ with
  | true =>
   simp only [cond_true, if_true, List.length_cons]
   rw [wrap_eq (by omega) (by omega), ih (o + 1) (by omega) (by omega)]
   congr 2; omega
  | false =>
   simp only [cond_false, Bool.false_eq_true, if_false]
   rw [ih o h0 (by omega)]
theorem hg_l1 (hw : s.Width ≤ 12) (hw0 : 0 ≤ s.Width) (t : Int) : ∀ (k : Nat) (c o : Int), (∀ p ∈ gridP s.Width.toNat k c, Good s (hangB b t) p) → 0 ≤ o → o + k * 12 ≤ 1000 → g_sight_Hang_l1 s b t k c o = some (.go (o + ((gridP s.Width.toNat k c).filter (sureB s (hangB b t))).length))
 | 0, c, o, h, h0, h1 => by simp [g_sight_Hang_l1, gridP]
 | k + 1, c, o, h, h0, h1 => by
  have hl := List.length_filter_le (sureB s (hangB b t)) (rowP c s.Width.toNat 0)
  rw [rowP_len] at hl
  simp only [g_sight_Hang_l1, bnd_small (show s.Width ≤ 1000 by omega), cond_true, Int.sub_zero]
  rw [hg_l2 t c s.Width.toNat 0 o (fun p hp => h p (List.mem_append.2 (.inl hp))) h0 (by omega), lbind_go, hg_l1 hw hw0 t k (c + 1) (o + ((rowP c s.Width.toNat 0).filter (sureB s (hangB b t))).length) (fun p hp => h p (List.mem_append.2 (.inr hp))) (by omega) (by omega), gridP, List.filter_append, List.length_append]
  congr 2; omega
theorem hg_l0 (hl : 1 ≤ s.Length ∧ s.Length ≤ 40) (hw : 1 ≤ s.Width ∧ s.Width ≤ 12) (hg : ∀ p ∈ allP s, Good s b p) : ∀ (k : Nat) (c o0 o1 : Int) (o2 : Bool) (o3 : Int), 0 ≤ c → c + k ≤ 41 → g_sight_Hang_l0 s b k c o0 o1 o2 o3 = some (.go (hF (hangN s b) k c o0 o1 o2 o3))
 | 0, c, o0, o1, o2, o3, _, _ => rfl
 | k + 1, c, o0, o1, o2, o3, h0, h1 => by
  have ih := fun o0 o1 o2 o3 => hg_l0 hl hw hg k (c + 1) o0 o1 o2 o3 (by omega) (by omega)
  have h := hg_l1 (s := s) (b := b) hw.2 (by omega) c (s.Length + 1).toNat 0 0 (fun p hp => good_at (hg p hp) h0 (by omega)) (Int.le_refl 0) (by omega)
  simp only [g_sight_Hang_l0, wrap_eq (show -9223372036854775808 ≤ s.Length + 1 by omega) (by omega), Int.sub_zero, h, lbind_go, Int.zero_add, g_sight_Hang_1, Option.bind_some, ih, hF]
  show cond o2 (cond (decide (hangN s b c > o1)) _ _) _ = _
  cases o2 with
  | false => rfl
  | true =>
   simp only [cond_true]
   cases decide (hangN s b c > o1) <;> rfl
theorem Hang_eq {n : Int} (h : FineS s) (h1 : streetB s = true) (h2 : numB s n = true) (hb : getI s.Boards n = some b) (hl : 1 ≤ s.Length ∧ s.Length ≤ 40) (hw : 1 ≤ s.Width ∧ s.Width ≤ 12) (hg : ∀ p ∈ allP s, Good s b p) :
  g_sight_Hang s n = some ((rF (hangN s b) (s.Length + 1).toNat 0 0 (-1)).1, (rF (hangN s b) (s.Length + 1).toNat 0 0 (-1)).2, 0) := by
 have h2' := h2
 simp only [numB] at h2'
 simp only [g_sight_Hang, isStreet_eq s h, isBoard_eq, h1, h2', Option.bind_some, cond_true, hb, wrap_eq (show -9223372036854775808 ≤ s.Length + 1 by omega) (by omega), bnd_small (show s.Length + 1 ≤ 1000 by omega), Int.sub_zero]
 rw [hg_l0 hl hw hg _ _ _ _ _ _ (Int.le_refl 0) (by omega), lbind_go]
 obtain ⟨k, hk⟩ : ∃ k, (s.Length + 1).toNat = k + 1 := ⟨s.Length.toNat, by omega⟩
 rw [hk]
 have hn : hangN s b 0 > -1 := by unfold hangN; omega
 simp only [hF, rF, cond_false, decide_eq_true hn, cond_true]
 obtain ⟨e1, e2⟩ := hF_rF (hangN s b) k (0 + 1) 0 (hangN s b 0) 0
 rw [e1, e2]
theorem rhg_l0 (hl : 1 ≤ s.Length ∧ s.Length ≤ 40) (hw : 1 ≤ s.Width ∧ s.Width ≤ 12) (hg : ∀ p ∈ allP s, Good s b p) : ∀ (k : Nat) (c a m : Int) (fuel : Nat), 0 ≤ c → c + k = s.Length + 1 → k < fuel → g_ref02_Hang_l0 s b fuel a m c = some (.go ((rF (hangN s b) k c a m).1, (rF (hangN s b) k c a m).2, s.Length + 1))
 | k, c, a, m, 0, _, _, h => by omega
 | 0, c, a, m, fuel + 1, h0, h1, h => by
  simp only [g_ref02_Hang_l0, decide_eq_false (show ¬ (c ≤ s.Length) by omega), cond_false, rF]
  rw [show c = s.Length + 1 by omega]
 | k + 1, c, a, m, fuel + 1, h0, h1, h => by
  have ih := fun a m => rhg_l0 hl hw hg k (c + 1) a m fuel (by omega) (by omega) (by omega)
  have hf := (From_eq (b := hangB b c) hl hw (fun p hp => good_at (hg p hp) h0 (by omega))).1
  simp only [g_ref02_Hang_l0, decide_eq_true (show c ≤ s.Length by omega), cond_true, g_ref02_Moved, Option.bind_some, hf, wrap_eq (show -9223372036854775808 ≤ c + 1 by omega) (by omega), ih, rF]
  show cond (decide (hangN s b c > m)) _ _ = _
  cases decide (hangN s b c > m) <;> rfl
theorem refHang_eq (hl : 1 ≤ s.Length ∧ s.Length ≤ 40) (hw : 1 ≤ s.Width ∧ s.Width ≤ 12) (hg : ∀ p ∈ allP s, Good s b p) : g_ref02_Hang s b = some (rF (hangN s b) (s.Length + 1).toNat 0 0 (-1)) := by
 simp only [g_ref02_Hang]
 rw [rhg_l0 hl hw hg (s.Length + 1).toNat 0 0 (-1) 1000000 (Int.le_refl 0) (by omega) (by omega), lbind_go]
end
end Go.V
end
section
namespace Go.V
open Go Go.Proofs
theorem hmix : Tryz.prog.follows .mixedOrders = true := by kernel_rfl
def kS : VV := (Go.V.VV.agg [(Go.V.VV.lit (Go.Value.int Go.IntKind.i64 (Int.ofNat 20))), (Go.V.VV.lit (Go.Value.int Go.IntKind.i64 (Int.ofNat 6))), (Go.V.VV.lit (Go.Value.int Go.IntKind.i64 (Int.ofNat 4))), (Go.V.VV.lit (Go.Value.int Go.IntKind.i64 (Int.ofNat 6))), (Go.V.VV.lit (Go.Value.int Go.IntKind.i64 (Int.ofNat 50))), (Go.V.VV.lit (Go.Value.int Go.IntKind.i64 (Int.ofNat 100))), (Go.V.VV.sl [(Go.V.VV.lit (Go.Value.int Go.IntKind.i64 (Int.ofNat 10))), (Go.V.VV.sl [(Go.V.VV.lit (Go.Value.int Go.IntKind.i64 (Int.ofNat 6))), (Go.V.VV.lit (Go.Value.int Go.IntKind.i64 (Int.ofNat 4))), (Go.V.VV.lit (Go.Value.int Go.IntKind.i64 (Int.ofNat 1))), (Go.V.VV.lit (Go.Value.int Go.IntKind.i64 (Int.ofNat 1))), (Go.V.VV.lit (Go.Value.int Go.IntKind.i64 (Int.ofNat 8))), (Go.V.VV.lit (Go.Value.int Go.IntKind.i64 (Int.ofNat 5))), (Go.V.VV.lit (Go.Value.int Go.IntKind.i64 (Int.ofNat 2))), (Go.V.VV.lit (Go.Value.int Go.IntKind.i64 (Int.ofNat 0)))] 2 Bool.false), (Go.V.VV.lit (Go.Value.int Go.IntKind.i64 (Int.ofNat 0))), (Go.V.VV.sl [(Go.V.VV.lit (Go.Value.int Go.IntKind.i64 (Int.ofNat 10))), (Go.V.VV.lit (Go.Value.int Go.IntKind.i64 (Int.ofNat 10))), (Go.V.VV.lit (Go.Value.int Go.IntKind.i64 (Int.ofNat 2))), (Go.V.VV.lit (Go.Value.int Go.IntKind.i64 (Int.ofNat 0)))] 1 Bool.false)] 2 Bool.false), (Go.V.VV.sl [(Go.V.VV.lit (Go.Value.int Go.IntKind.i64 (Int.ofNat 12))), (Go.V.VV.lit (Go.Value.int Go.IntKind.i64 (Int.ofNat 13))), (Go.V.VV.lit (Go.Value.int Go.IntKind.i64 (Int.ofNat 2))), (Go.V.VV.lit (Go.Value.int Go.IntKind.i64 (Int.ofNat 3))), (Go.V.VV.lit (Go.Value.bool Bool.true)), (Go.V.VV.lit (Go.Value.int Go.IntKind.i64 (Int.ofNat 5))), (Go.V.VV.lit (Go.Value.int Go.IntKind.i64 (Int.ofNat 6))), (Go.V.VV.lit (Go.Value.int Go.IntKind.i64 (Int.ofNat 4))), (Go.V.VV.lit (Go.Value.int Go.IntKind.i64 (Int.ofNat 5))), (Go.V.VV.lit (Go.Value.bool Bool.false))] 2 Bool.false)])
def kT : VV := (Go.V.VV.agg [(Go.V.VV.lit (Go.Value.int Go.IntKind.i64 (Int.ofNat 4))), (Go.V.VV.lit (Go.Value.int Go.IntKind.i64 (Int.ofNat 2))), (Go.V.VV.lit (Go.Value.int Go.IntKind.i64 (Int.ofNat 1))), (Go.V.VV.lit (Go.Value.int Go.IntKind.i64 (Int.ofNat 1))), (Go.V.VV.lit (Go.Value.int Go.IntKind.i64 (Int.ofNat 100))), (Go.V.VV.lit (Go.Value.int Go.IntKind.i64 (Int.ofNat 100))), (Go.V.VV.sl [(Go.V.VV.lit (Go.Value.int Go.IntKind.i64 (Int.ofNat 0))), (Go.V.VV.sl [(Go.V.VV.lit (Go.Value.int Go.IntKind.i64 (Int.ofNat 3))), (Go.V.VV.lit (Go.Value.int Go.IntKind.i64 (Int.ofNat 2))), (Go.V.VV.lit (Go.Value.int Go.IntKind.i64 (Int.ofNat 1))), (Go.V.VV.lit (Go.Value.int Go.IntKind.i64 (Int.ofNat 0)))] 1 Bool.false)] 1 Bool.false), (Go.V.VV.lit (Go.Value.slice Option.none 0 0))])
def kAt46 : VV := (Go.V.VV.agg [(Go.V.VV.lit (Go.Value.int Go.IntKind.i64 (Int.ofNat 4))), (Go.V.VV.lit (Go.Value.int Go.IntKind.i64 (Int.ofNat 6)))])
def kAt41 : VV := (Go.V.VV.agg [(Go.V.VV.lit (Go.Value.int Go.IntKind.i64 (Int.ofNat 4))), (Go.V.VV.lit (Go.Value.int Go.IntKind.i64 (Int.ofNat 1)))])
def kAt201 : VV := (Go.V.VV.agg [(Go.V.VV.lit (Go.Value.int Go.IntKind.i64 (Int.ofNat 20))), (Go.V.VV.lit (Go.Value.int Go.IntKind.i64 (Int.ofNat 1)))])
def kAt166 : VV := (Go.V.VV.agg [(Go.V.VV.lit (Go.Value.int Go.IntKind.i64 (Int.ofNat 16))), (Go.V.VV.lit (Go.Value.int Go.IntKind.i64 (Int.ofNat 6)))])
def kAt106 : VV := (Go.V.VV.agg [(Go.V.VV.lit (Go.Value.int Go.IntKind.i64 (Int.ofNat 10))), (Go.V.VV.lit (Go.Value.int Go.IntKind.i64 (Int.ofNat 6)))])
def kSeen : VV := (Go.V.VV.tup [(Go.V.VV.lit (Go.Value.int Go.IntKind.i64 (Int.ofNat 2))), (Go.V.VV.lit (Go.Value.int Go.IntKind.i64 (Int.ofNat 0)))])
def kWhy : VV := (Go.V.VV.tup [(Go.V.VV.agg [(Go.V.VV.lit (Go.Value.int Go.IntKind.i64 (Int.ofNat 3))), (Go.V.VV.lit (Go.Value.int Go.IntKind.i64 (Int.ofNat 0)))]), (Go.V.VV.lit (Go.Value.int Go.IntKind.i64 (Int.ofNat 0)))])
def kLetters : VV := (Go.V.VV.tup [(Go.V.VV.sl [(Go.V.VV.lit (Go.Value.int Go.IntKind.i64 (Int.ofNat 2))), (Go.V.VV.lit (Go.Value.int Go.IntKind.i64 (Int.ofNat 2)))] 2 Bool.false), (Go.V.VV.lit (Go.Value.int Go.IntKind.i64 (Int.ofNat 0)))])
def kMelts : VV := (Go.V.VV.tup [(Go.V.VV.sl [(Go.V.VV.lit (Go.Value.int Go.IntKind.i64 (Int.ofNat 3)))] 1 Bool.false), (Go.V.VV.lit (Go.Value.int Go.IntKind.i64 (Int.ofNat 0)))])
def kHidden : VV := (Go.V.VV.tup [(Go.V.VV.sl [(Go.V.VV.lit (Go.Value.int Go.IntKind.i64 (Int.ofNat 0)))] 1 Bool.false), (Go.V.VV.lit (Go.Value.int Go.IntKind.i64 (Int.ofNat 0)))])
def kMany : VV := (Go.V.VV.tup [(Go.V.VV.lit (Go.Value.int Go.IntKind.i64 (Int.ofNat 3))), (Go.V.VV.lit (Go.Value.int Go.IntKind.i64 (Int.ofNat 3))), (Go.V.VV.lit (Go.Value.int Go.IntKind.i64 (Int.ofNat 0)))])
def kFarthest : VV := (Go.V.VV.tup [(Go.V.VV.agg [(Go.V.VV.lit (Go.Value.int Go.IntKind.i64 (Int.ofNat 0))), (Go.V.VV.lit (Go.Value.int Go.IntKind.i64 (Int.ofNat 2)))]), (Go.V.VV.lit (Go.Value.int Go.IntKind.i64 (Int.ofNat 0)))])
def kLeast : VV := (Go.V.VV.tup [(Go.V.VV.lit (Go.Value.int Go.IntKind.i64 (Int.ofNat 5))), (Go.V.VV.lit (Go.Value.int Go.IntKind.i64 (Int.ofNat 0)))])
def kLight : VV := (Go.V.VV.tup [(Go.V.VV.lit (Go.Value.int Go.IntKind.i64 (Int.ofNat 38))), (Go.V.VV.lit (Go.Value.int Go.IntKind.i64 (Int.ofNat 0)))])
def kHang : VV := (Go.V.VV.tup [(Go.V.VV.lit (Go.Value.int Go.IntKind.i64 (Int.ofNat 1))), (Go.V.VV.lit (Go.Value.int Go.IntKind.i64 (Int.ofNat 4))), (Go.V.VV.lit (Go.Value.int Go.IntKind.i64 (Int.ofNat 0)))])
def kRead : VV := (Go.V.VV.tup [(Go.V.VV.agg [(Go.V.VV.lit (Go.Value.int Go.IntKind.i64 (Int.ofNat 1))), (Go.V.VV.lit (Go.Value.int Go.IntKind.i64 (Int.ofNat 1))), (Go.V.VV.lit (Go.Value.int Go.IntKind.i64 (Int.ofNat 1))), (Go.V.VV.lit (Go.Value.int Go.IntKind.i64 (Int.ofNat 1))), (Go.V.VV.lit (Go.Value.int Go.IntKind.i64 (Int.ofNat 1))), (Go.V.VV.lit (Go.Value.int Go.IntKind.i64 (Int.ofNat 1))), (Go.V.VV.sl [(Go.V.VV.lit (Go.Value.int Go.IntKind.i64 (Int.ofNat 0))), (Go.V.VV.sl [(Go.V.VV.lit (Go.Value.int Go.IntKind.i64 (Int.ofNat 1))), (Go.V.VV.lit (Go.Value.int Go.IntKind.i64 (Int.ofNat 1))), (Go.V.VV.lit (Go.Value.int Go.IntKind.i64 (Int.ofNat 1))), (Go.V.VV.lit (Go.Value.int Go.IntKind.i64 (Int.ofNat 0)))] 1 Bool.false)] 1 Bool.false), (Go.V.VV.lit (Go.Value.slice Option.none 0 0))]), (Go.V.VV.lit (Go.Value.int Go.IntKind.i64 (Int.ofNat 0)))])
end Go.V
end
section
namespace Go.V
open Go Go.Proofs
theorem pS : VPure Tryz.prog G0 48 [] (.tree kS) := VPure.closedB hmix 1000 (by kernel_rfl)
theorem pT : VPure Tryz.prog G0 51 [] (.tree kT) := VPure.closedB hmix 1000 (by kernel_rfl)
theorem pAt46 : VPure Tryz.prog G0 39 [.lit (.int .i64 (4)), .lit (.int .i64 (6))] (.tree kAt46) := VPure.closedB hmix 1000 (by kernel_rfl)
theorem pAt41 : VPure Tryz.prog G0 39 [.lit (.int .i64 (4)), .lit (.int .i64 (1))] (.tree kAt41) := VPure.closedB hmix 1000 (by kernel_rfl)
theorem pAt201 : VPure Tryz.prog G0 39 [.lit (.int .i64 (20)), .lit (.int .i64 (1))] (.tree kAt201) := VPure.closedB hmix 1000 (by kernel_rfl)
theorem pAt166 : VPure Tryz.prog G0 39 [.lit (.int .i64 (16)), .lit (.int .i64 (6))] (.tree kAt166) := VPure.closedB hmix 1000 (by kernel_rfl)
theorem pAt106 : VPure Tryz.prog G0 39 [.lit (.int .i64 (10)), .lit (.int .i64 (6))] (.tree kAt106) := VPure.closedB hmix 1000 (by kernel_rfl)
theorem pSeen : VPure Tryz.prog G0 25 [kS, .lit (.int .i64 (0)), kAt46] (.tree kSeen) := VPure.closedB hmix 1000 (by kernel_rfl)
theorem pWhy : VPure Tryz.prog G0 40 [kS, .lit (.int .i64 (0)), kAt41] (.tree kWhy) := VPure.closedB hmix 1000 (by kernel_rfl)
theorem pLetters : VPure Tryz.prog G0 49 [kS, .lit (.int .i64 (0)), kAt46] (.tree kLetters) := VPure.closedB hmix 1000 (by kernel_rfl)
end Go.V
end
section
namespace Go.V
open Go Go.Proofs
theorem pMelts : VPure Tryz.prog G0 50 [kS, .lit (.int .i64 (0)), kAt201] (.tree kMelts) := VPure.closedB hmix 1000 (by kernel_rfl)
theorem pHidden : VPure Tryz.prog G0 41 [kS, .lit (.int .i64 (0)), kAt166] (.tree kHidden) := VPure.closedB hmix 1000 (by kernel_rfl)
end Go.V
end
section
namespace Go.V
open Go Go.Proofs
theorem pMany : VPure Tryz.prog G0 17 [kT, .lit (.int .i64 (0))] (.tree kMany) := VPure.closedB hmix 1000 (by kernel_rfl)
theorem pFarthest : VPure Tryz.prog G0 18 [kT, .lit (.int .i64 (0))] (.tree kFarthest) := VPure.closedB hmix 1000 (by kernel_rfl)
theorem pLeast : VPure Tryz.prog G0 52 [kS, .lit (.int .i64 (0)), kAt41] (.tree kLeast) := VPure.closedB hmix 1000 (by kernel_rfl)
end Go.V
end
section
namespace Go.V
open Go Go.Proofs
theorem pLight : VPure Tryz.prog G0 32 [kS, .lit (.int .i64 (0)), kAt106] (.tree kLight) := VPure.closedB hmix 1000 (by kernel_rfl)
end Go.V
end
section
namespace Go.V
open Go Go.Proofs
theorem pHang : VPure Tryz.prog G0 34 [kT, .lit (.int .i64 (0))] (.tree kHang) := VPure.closedB hmix 1000 (by kernel_rfl)
end Go.V
end
section
namespace Go.V
open Go Go.Proofs
theorem pRead : VPure Tryz.prog G0 44 [.lit (.string ⟨⟨[115, 105, 103, 104, 116, 32, 49, 32, 49, 32, 49, 32, 49, 32, 49, 32, 49, 10, 98, 111, 97, 114, 100, 32, 48, 10, 108, 101, 116, 116, 101, 114, 32, 49, 32, 49, 32, 49, 32, 48, 10, 101, 110, 100, 32, 48, 49, 57, 10]⟩⟩)] (.tree kRead) := VPure.closedB hmix 1000 (by kernel_rfl)
end Go.V
end
section
namespace Go.V
open Go Go.Proofs
def kTab : KTab := [
  (48, [], kS),
  (51, [], kT),
  (39, [.lit (.int .i64 (4)), .lit (.int .i64 (6))], kAt46),
  (39, [.lit (.int .i64 (4)), .lit (.int .i64 (1))], kAt41),
  (39, [.lit (.int .i64 (20)), .lit (.int .i64 (1))], kAt201),
  (39, [.lit (.int .i64 (16)), .lit (.int .i64 (6))], kAt166),
  (39, [.lit (.int .i64 (10)), .lit (.int .i64 (6))], kAt106),
  (25, [kS, .lit (.int .i64 (0)), kAt46], kSeen),
  (40, [kS, .lit (.int .i64 (0)), kAt41], kWhy),
  (49, [kS, .lit (.int .i64 (0)), kAt46], kLetters),
  (50, [kS, .lit (.int .i64 (0)), kAt201], kMelts),
  (41, [kS, .lit (.int .i64 (0)), kAt166], kHidden),
  (17, [kT, .lit (.int .i64 (0))], kMany),
  (18, [kT, .lit (.int .i64 (0))], kFarthest),
  (52, [kS, .lit (.int .i64 (0)), kAt41], kLeast),
  (32, [kS, .lit (.int .i64 (0)), kAt106], kLight),
  (34, [kT, .lit (.int .i64 (0))], kHang),
  (44, [.lit (.string ⟨⟨[115, 105, 103, 104, 116, 32, 49, 32, 49, 32, 49, 32, 49, 32, 49, 32, 49, 10, 98, 111, 97, 114, 100, 32, 48, 10, 108, 101, 116, 116, 101, 114, 32, 49, 32, 49, 32, 49, 32, 48, 10, 101, 110, 100, 32, 48, 49, 57, 10]⟩⟩)], kRead)]
theorem kTabOk : KTabOk Tryz.prog G0 kTab := ⟨⟨by kernel_rfl, pS⟩, ⟨⟨by kernel_rfl, pT⟩, ⟨⟨by kernel_rfl, pAt46⟩, ⟨⟨by kernel_rfl, pAt41⟩, ⟨⟨by kernel_rfl, pAt201⟩, ⟨⟨by kernel_rfl, pAt166⟩, ⟨⟨by kernel_rfl, pAt106⟩, ⟨⟨by kernel_rfl, pSeen⟩, ⟨⟨by kernel_rfl, pWhy⟩, ⟨⟨by kernel_rfl, pLetters⟩, ⟨⟨by kernel_rfl, pMelts⟩, ⟨⟨by kernel_rfl, pHidden⟩, ⟨⟨by kernel_rfl, pMany⟩, ⟨⟨by kernel_rfl, pFarthest⟩, ⟨⟨by kernel_rfl, pLeast⟩, ⟨⟨by kernel_rfl, pLight⟩, ⟨⟨by kernel_rfl, pHang⟩, ⟨⟨by kernel_rfl, pRead⟩, trivial⟩⟩⟩⟩⟩⟩⟩⟩⟩⟩⟩⟩⟩⟩⟩⟩⟩⟩
theorem pKnown : VPure Tryz.prog G0 16 [] (.tree (.lit (.bool true))) := VPure.closedT hmix kTabOk 1000 (by kernel_rfl)
#print axioms pKnown
end Go.V
end
section
namespace Go.V
open Go Go.Proofs
theorem g_law02_known_ok : VPure Tryz.prog G0 16 [] (.tree (.lit (.bool true))) := pKnown
end Go.V
end
section
namespace Go.V
open Go Go.Proofs
def g_law02_SightHangs (x0_s : GSightStreet) (x1_a1 : Int) : Option (Bool) := Option.bind (g_law02_short x0_s) (fun r1 => cond (r1) (cond (decide (x0_s.Length > 20)) (cond (decide (x0_s.Length ≤ 40)) (some true) (Option.bind (g_sight_Hang x0_s x1_a1) (fun r2 => Option.bind (g_ref02_Street x0_s) (fun r3 => cond (r3) (Option.bind (g_ref02_Board x0_s x1_a1) (fun r4 => cond (r4) (Option.bind (getI x0_s.Boards x1_a1) (fun x5 => Option.bind (g_ref02_Hang x0_s x5) (fun r6 => cond (r2.2.2 == 0) (cond (r2.1 == r6.1) (cond (r2.2.1 == r6.2) (some true) (some false)) (some false)) (some false)))) (cond (r2.2.2 == 2) (cond (r2.1 == 0) (cond (r2.2.1 == 0) (some true) (some false)) (some false)) (some false)))) (cond (r2.2.2 == 2) (cond (r2.1 == 0) (cond (r2.2.1 == 0) (some true) (some false)) (some false)) (some false)))))) (Option.bind (g_sight_Hang x0_s x1_a1) (fun r7 => Option.bind (g_ref02_Street x0_s) (fun r8 => cond (r8) (Option.bind (g_ref02_Board x0_s x1_a1) (fun r9 => cond (r9) (Option.bind (getI x0_s.Boards x1_a1) (fun x10 => Option.bind (g_ref02_Hang x0_s x10) (fun r11 => cond (r7.2.2 == 0) (cond (r7.1 == r11.1) (cond (r7.2.1 == r11.2) (some true) (some false)) (some false)) (some false)))) (cond (r7.2.2 == 2) (cond (r7.1 == 0) (cond (r7.2.1 == 0) (some true) (some false)) (some false)) (some false)))) (cond (r7.2.2 == 2) (cond (r7.1 == 0) (cond (r7.2.1 == 0) (some true) (some false)) (some false)) (some false)))))) (some true))
theorem g_law02_SightHangs_ok (x0_s : GSightStreet) (x1_a1 : Int) (R : Bool) (h : g_law02_SightHangs x0_s x1_a1 = some R) : VPure Tryz.prog G0 8 [.agg (cGSightStreet x0_s), .lit (.int .i64 x1_a1)] (.tree (.lit (.bool R))) := by
 refine VPure.runR mixed Tryz.call8 Tryz.func8 rfl (by simp [Tryz.ntmps8]; kernel_rfl) ?_
 obtain ⟨KF, h, kF, kN⟩ := fun_intro h
 simp only [g_law02_SightHangs] at h
 rcases o13 : (g_law02_short x0_s) with _ | r12
 ·simp only [o13, hs] at h
  exact absurd h kN
 simp only [o13, hs] at h
 simp only [vz, tyf, nm, seval]
 refine ktree (args0 := [.agg (cGSightStreet x0_s)]) (by first | (simp only [nrm, tynrm] <;> rfl) | rfl) (by simp only [tre, tytre, Bool.and_self]) (g_law02_short_ok _ _ o13) ?_
 refine fin_cut (fun tm => tm 1 = .lit (.int .i64 x1_a1) ∧ tm 2 = .ptr 0 0 ∧ tm 11 = .lit (.bool r12) ∧ True) (by refine ⟨?_, ?_, ?_, trivial⟩ <;> first | (simp only [ua, nm, seval] <;> rfl) | rfl) ?_
 rintro tm ⟨e14, e15, e16, _⟩
 cases d17 : (r12)
 ·simp only [d17, hs] at h
  simp only [vz, tyf, e14, e15, e16, d17, nm, seval]
  refine ktree0 g_law02_known_ok ?_
  try simp only [vz, tyf, e14, e15, e16, d17, nm, seval]
  obtain rfl := kF _ h
  exact opd_bool Tryz.results8 rfl
 simp only [d17, hs] at h
 cases d18 : (decide (x0_s.Length > 20))
 ·simp only [d18, hs] at h
  rcases o20 : (g_sight_Hang x0_s x1_a1) with _ | r19
  ·simp only [o20, hs] at h
   exact absurd h kN
  simp only [o20, hs] at h
  simp only [vz, tyf, e14, e15, e16, d17, d18, nm, seval]
  refine ktree (args0 := [.agg (cGSightStreet x0_s), .lit (.int .i64 x1_a1)]) (by first | (simp only [nrm, tynrm] <;> rfl) | rfl) (by simp only [tre, tytre, Bool.and_self]) (g_sight_Hang_ok _ _ _ o20) ?_
  refine fin_cut (fun tm => tm 1 = .lit (.int .i64 x1_a1) ∧ tm 2 = .ptr 0 0 ∧ tm 27 = .tup [.lit (.int .i64 r19.1), .lit (.int .i64 r19.2.1), .lit (.int .i64 r19.2.2)] ∧ True) (by refine ⟨e14, e15, ?_, trivial⟩ <;> first | (simp only [ua, e14, e15, e16, d17, d18, nm, seval] <;> rfl) | rfl) ?_
  rintro tm ⟨e21, e22, e23, _⟩
  rcases o25 : (g_ref02_Street x0_s) with _ | r24
  ·simp only [o25, hs] at h
   exact absurd h kN
  simp only [o25, hs] at h
  simp only [vz, tyf, d17, d18, e21, e22, e23, nm, seval]
  refine ktree (args0 := [.agg (cGSightStreet x0_s)]) (by first | (simp only [nrm, tynrm] <;> rfl) | rfl) (by simp only [tre, tytre, Bool.and_self]) (g_ref02_Street_ok _ _ o25) ?_
  refine fin_cut (fun tm => tm 1 = .lit (.int .i64 x1_a1) ∧ tm 2 = .ptr 0 0 ∧ tm 5 = .lit (.int .i64 r19.1) ∧ tm 6 = .lit (.int .i64 r19.2.1) ∧ tm 7 = .lit (.int .i64 r19.2.2) ∧ tm 32 = .lit (.bool r24) ∧ True) (by refine ⟨e21, e22, ?_, ?_, ?_, ?_, trivial⟩ <;> first | (simp only [ua, d17, d18, e21, e22, e23, nm, seval] <;> rfl) | rfl) ?_
  rintro tm ⟨e26, e27, e28, e29, e30, e31, _⟩
  cases d32 : (r24)
  ·simp only [d32, hs] at h
   cases d33 : (r19.2.2 == 2)
   ·simp only [d33, hs] at h
    try simp only [vz, tyf, d17, d18, e26, e27, e28, e29, e30, e31, d32, d33, nm, seval]
    obtain rfl := kF _ h
    exact opd_bool Tryz.results8 rfl
   simp only [d33, hs] at h
   cases d34 : (r19.1 == 0)
   ·simp only [d34, hs] at h
    try simp only [vz, tyf, d17, d18, e26, e27, e28, e29, e30, e31, d32, d33, d34, nm, seval]
    obtain rfl := kF _ h
    exact opd_bool Tryz.results8 rfl
   simp only [d34, hs] at h
   cases d35 : (r19.2.1 == 0)
   ·simp only [d35, hs] at h
    try simp only [vz, tyf, d17, d18, e26, e27, e28, e29, e30, e31, d32, d33, d34, d35, nm, seval]
    obtain rfl := kF _ h
    exact opd_bool Tryz.results8 rfl
   simp only [d35, hs] at h
   simp only [vz, tyf, d17, d18, e26, e27, e28, e29, e30, e31, d32, d33, d34, d35, nm, seval]
   refine ktree0 g_law02_known_ok ?_
   try simp only [vz, tyf, d17, d18, e26, e27, e28, e29, e30, e31, d32, d33, d34, d35, nm, seval]
   obtain rfl := kF _ h
   exact opd_bool Tryz.results8 rfl
  simp only [d32, hs] at h
  rcases o37 : (g_ref02_Board x0_s x1_a1) with _ | r36
  ·simp only [o37, hs] at h
   exact absurd h kN
  simp only [o37, hs] at h
  simp only [vz, tyf, d17, d18, e26, e27, e28, e29, e30, e31, d32, nm, seval]
  refine ktree (args0 := [.agg (cGSightStreet x0_s), .lit (.int .i64 x1_a1)]) (by first | (simp only [nrm, tynrm] <;> rfl) | rfl) (by simp only [tre, tytre, Bool.and_self]) (g_ref02_Board_ok _ _ _ o37) ?_
  refine fin_cut (fun tm => tm 1 = .lit (.int .i64 x1_a1) ∧ tm 2 = .ptr 0 0 ∧ tm 5 = .lit (.int .i64 r19.1) ∧ tm 6 = .lit (.int .i64 r19.2.1) ∧ tm 7 = .lit (.int .i64 r19.2.2) ∧ tm 34 = .lit (.bool false) ∧ tm 37 = .lit (.bool r36) ∧ True) (by refine ⟨e26, e27, e28, e29, e30, ?_, ?_, trivial⟩ <;> first | (simp only [ua, d17, d18, e26, e27, e28, e29, e30, e31, d32, nm, seval] <;> rfl) | rfl) ?_
  rintro tm ⟨e38, e39, e40, e41, e42, e43, e44, _⟩
  cases d45 : (r36)
  ·simp only [d45, hs] at h
   cases d46 : (r19.2.2 == 2)
   ·simp only [d46, hs] at h
    try simp only [vz, tyf, d17, d18, d32, e38, e39, e40, e41, e42, e43, e44, d45, d46, nm, seval]
    obtain rfl := kF _ h
    exact opd_bool Tryz.results8 rfl
   simp only [d46, hs] at h
   cases d47 : (r19.1 == 0)
   ·simp only [d47, hs] at h
    try simp only [vz, tyf, d17, d18, d32, e38, e39, e40, e41, e42, e43, e44, d45, d46, d47, nm, seval]
    obtain rfl := kF _ h
    exact opd_bool Tryz.results8 rfl
   simp only [d47, hs] at h
   cases d48 : (r19.2.1 == 0)
   ·simp only [d48, hs] at h
    have b49 := And.intro d17 (And.intro d18 (And.intro d32 (And.intro d45 (And.intro d46 (And.intro d47 d48)))))
    try simp only [vz, tyf, b49, e38, e39, e40, e41, e42, e43, e44, nm, seval]
    obtain rfl := kF _ h
    exact opd_bool Tryz.results8 rfl
   simp only [d48, hs] at h
   have b50 := And.intro d17 (And.intro d18 (And.intro d32 (And.intro d45 (And.intro d46 (And.intro d47 d48)))))
   simp only [vz, tyf, b50, e38, e39, e40, e41, e42, e43, e44, nm, seval]
   refine ktree0 g_law02_known_ok ?_
   try simp only [vz, tyf, b50, e38, e39, e40, e41, e42, e43, e44, nm, seval]
   obtain rfl := kF _ h
   exact opd_bool Tryz.results8 rfl
  simp only [d45, hs] at h
  simp only [vz, tyf, d17, d18, d32, e38, e39, e40, e41, e42, e43, e44, d45, nm, seval]
  refine cwp_drwQF (fun tm => tm 1 = .lit (.int .i64 x1_a1) ∧ tm 2 = .ptr 0 0 ∧ tm 5 = .lit (.int .i64 r19.1) ∧ tm 6 = .lit (.int .i64 r19.2.1) ∧ tm 7 = .lit (.int .i64 r19.2.2) ∧ True) (by refine ⟨e38, e39, e40, e41, e42, trivial⟩ <;> first | (simp only [ua, d17, d18, d32, e38, e39, e40, e41, e42, e43, e44, d45, nm, seval] <;> rfl) | rfl) ?_
  rintro tm ⟨e51, e52, e53, e54, e55, _⟩
  rcases o57 : (getI x0_s.Boards x1_a1) with _ | x56
  ·simp only [o57, hs] at h
   exact absurd h kN
  simp only [o57, hs] at h
  rcases o59 : (g_ref02_Hang x0_s x56) with _ | r58
  ·simp only [o59, hs] at h
   exact absurd h kN
  simp only [o59, hs] at h
  simp only [vz, tyf, d17, d18, d32, d45, e51, e52, e53, e54, e55, (ix24 o57), nm, seval]
  refine dktree (args0 := [.agg (cGSightStreet x0_s), .agg (cGSightBoard x56)]) (by first | (simp only [nrm, tynrm] <;> rfl) | rfl) (by simp only [tre, tytre, Bool.and_self]) (g_ref02_Hang_ok _ _ _ o59) ?_
  refine fin_cut (fun tm => tm 5 = .lit (.int .i64 r19.1) ∧ tm 6 = .lit (.int .i64 r19.2.1) ∧ tm 7 = .lit (.int .i64 r19.2.2) ∧ tm 60 = .tup [.lit (.int .i64 r58.1), .lit (.int .i64 r58.2)] ∧ True) (by refine ⟨e53, e54, e55, ?_, trivial⟩ <;> first | (simp only [ua, d17, d18, d32, d45, e51, e52, e53, e54, e55, nm, seval] <;> rfl) | rfl) ?_
  rintro tm ⟨e60, e61, e62, e63, _⟩
  cases d64 : (r19.2.2 == 0)
  ·simp only [d64, hs] at h
   try simp only [vz, tyf, d17, d18, d32, d45, (ix24 o57), e60, e61, e62, e63, d64, nm, seval]
   obtain rfl := kF _ h
   exact opd_bool Tryz.results8 rfl
  simp only [d64, hs] at h
  cases d65 : (r19.1 == r58.1)
  ·simp only [d65, hs] at h
   try simp only [vz, tyf, d17, d18, d32, d45, (ix24 o57), e60, e61, e62, e63, d64, d65, nm, seval]
   obtain rfl := kF _ h
   exact opd_bool Tryz.results8 rfl
  simp only [d65, hs] at h
  cases d66 : (r19.2.1 == r58.2)
  ·simp only [d66, hs] at h
   have b67 := And.intro d17 (And.intro d18 (And.intro d32 (And.intro d45 (And.intro d64 (And.intro d65 d66)))))
   try simp only [vz, tyf, b67, (ix24 o57), e60, e61, e62, e63, nm, seval]
   obtain rfl := kF _ h
   exact opd_bool Tryz.results8 rfl
  simp only [d66, hs] at h
  have b68 := And.intro d17 (And.intro d18 (And.intro d32 (And.intro d45 (And.intro d64 (And.intro d65 d66)))))
  simp only [vz, tyf, b68, (ix24 o57), e60, e61, e62, e63, nm, seval]
  refine ktree0 g_law02_known_ok ?_
  try simp only [vz, tyf, b68, (ix24 o57), e60, e61, e62, e63, nm, seval]
  obtain rfl := kF _ h
  exact opd_bool Tryz.results8 rfl
 simp only [d18, hs] at h
 cases d69 : (decide (x0_s.Length ≤ 40))
 ·simp only [d69, hs] at h
  rcases o71 : (g_sight_Hang x0_s x1_a1) with _ | r70
  ·simp only [o71, hs] at h
   exact absurd h kN
  simp only [o71, hs] at h
  simp only [vz, tyf, e14, e15, e16, d17, d18, d69, nm, seval]
  refine ktree (args0 := [.agg (cGSightStreet x0_s), .lit (.int .i64 x1_a1)]) (by first | (simp only [nrm, tynrm] <;> rfl) | rfl) (by simp only [tre, tytre, Bool.and_self]) (g_sight_Hang_ok _ _ _ o71) ?_
  refine fin_cut (fun tm => tm 1 = .lit (.int .i64 x1_a1) ∧ tm 2 = .ptr 0 0 ∧ tm 27 = .tup [.lit (.int .i64 r70.1), .lit (.int .i64 r70.2.1), .lit (.int .i64 r70.2.2)] ∧ True) (by refine ⟨e14, e15, ?_, trivial⟩ <;> first | (simp only [ua, e14, e15, e16, d17, d18, d69, nm, seval] <;> rfl) | rfl) ?_
  rintro tm ⟨e72, e73, e74, _⟩
  rcases o76 : (g_ref02_Street x0_s) with _ | r75
  ·simp only [o76, hs] at h
   exact absurd h kN
  simp only [o76, hs] at h
  simp only [vz, tyf, d17, d18, d69, e72, e73, e74, nm, seval]
  refine ktree (args0 := [.agg (cGSightStreet x0_s)]) (by first | (simp only [nrm, tynrm] <;> rfl) | rfl) (by simp only [tre, tytre, Bool.and_self]) (g_ref02_Street_ok _ _ o76) ?_
  refine fin_cut (fun tm => tm 1 = .lit (.int .i64 x1_a1) ∧ tm 2 = .ptr 0 0 ∧ tm 5 = .lit (.int .i64 r70.1) ∧ tm 6 = .lit (.int .i64 r70.2.1) ∧ tm 7 = .lit (.int .i64 r70.2.2) ∧ tm 32 = .lit (.bool r75) ∧ True) (by refine ⟨e72, e73, ?_, ?_, ?_, ?_, trivial⟩ <;> first | (simp only [ua, d17, d18, d69, e72, e73, e74, nm, seval] <;> rfl) | rfl) ?_
  rintro tm ⟨e77, e78, e79, e80, e81, e82, _⟩
  cases d83 : (r75)
  ·simp only [d83, hs] at h
   cases d84 : (r70.2.2 == 2)
   ·simp only [d84, hs] at h
    try simp only [vz, tyf, d17, d18, d69, e77, e78, e79, e80, e81, e82, d83, d84, nm, seval]
    obtain rfl := kF _ h
    exact opd_bool Tryz.results8 rfl
   simp only [d84, hs] at h
   cases d85 : (r70.1 == 0)
   ·simp only [d85, hs] at h
    try simp only [vz, tyf, d17, d18, d69, e77, e78, e79, e80, e81, e82, d83, d84, d85, nm, seval]
    obtain rfl := kF _ h
    exact opd_bool Tryz.results8 rfl
   simp only [d85, hs] at h
   cases d86 : (r70.2.1 == 0)
   ·simp only [d86, hs] at h
    have b87 := And.intro d17 (And.intro d18 (And.intro d69 (And.intro d83 (And.intro d84 (And.intro d85 d86)))))
    try simp only [vz, tyf, b87, e77, e78, e79, e80, e81, e82, nm, seval]
    obtain rfl := kF _ h
    exact opd_bool Tryz.results8 rfl
   simp only [d86, hs] at h
   have b88 := And.intro d17 (And.intro d18 (And.intro d69 (And.intro d83 (And.intro d84 (And.intro d85 d86)))))
   simp only [vz, tyf, b88, e77, e78, e79, e80, e81, e82, nm, seval]
   refine ktree0 g_law02_known_ok ?_
   try simp only [vz, tyf, b88, e77, e78, e79, e80, e81, e82, nm, seval]
   obtain rfl := kF _ h
   exact opd_bool Tryz.results8 rfl
  simp only [d83, hs] at h
  rcases o90 : (g_ref02_Board x0_s x1_a1) with _ | r89
  ·simp only [o90, hs] at h
   exact absurd h kN
  simp only [o90, hs] at h
  simp only [vz, tyf, d17, d18, d69, e77, e78, e79, e80, e81, e82, d83, nm, seval]
  refine ktree (args0 := [.agg (cGSightStreet x0_s), .lit (.int .i64 x1_a1)]) (by first | (simp only [nrm, tynrm] <;> rfl) | rfl) (by simp only [tre, tytre, Bool.and_self]) (g_ref02_Board_ok _ _ _ o90) ?_
  refine fin_cut (fun tm => tm 1 = .lit (.int .i64 x1_a1) ∧ tm 2 = .ptr 0 0 ∧ tm 5 = .lit (.int .i64 r70.1) ∧ tm 6 = .lit (.int .i64 r70.2.1) ∧ tm 7 = .lit (.int .i64 r70.2.2) ∧ tm 34 = .lit (.bool false) ∧ tm 37 = .lit (.bool r89) ∧ True) (by refine ⟨e77, e78, e79, e80, e81, ?_, ?_, trivial⟩ <;> first | (simp only [ua, d17, d18, d69, e77, e78, e79, e80, e81, e82, d83, nm, seval] <;> rfl) | rfl) ?_
  rintro tm ⟨e91, e92, e93, e94, e95, e96, e97, _⟩
  cases d98 : (r89)
  ·simp only [d98, hs] at h
   cases d99 : (r70.2.2 == 2)
   ·simp only [d99, hs] at h
    try simp only [vz, tyf, d17, d18, d69, d83, e91, e92, e93, e94, e95, e96, e97, d98, d99, nm, seval]
    obtain rfl := kF _ h
    exact opd_bool Tryz.results8 rfl
   simp only [d99, hs] at h
   cases d100 : (r70.1 == 0)
   ·simp only [d100, hs] at h
    have b101 := And.intro d17 (And.intro d18 (And.intro d69 (And.intro d83 (And.intro d98 (And.intro d99 d100)))))
    try simp only [vz, tyf, b101, e91, e92, e93, e94, e95, e96, e97, nm, seval]
    obtain rfl := kF _ h
    exact opd_bool Tryz.results8 rfl
   simp only [d100, hs] at h
   have b102 := And.intro d17 (And.intro d18 (And.intro d69 (And.intro d83 (And.intro d98 (And.intro d99 d100)))))
   cases d103 : (r70.2.1 == 0)
   ·simp only [d103, hs] at h
    try simp only [vz, tyf, b102, e91, e92, e93, e94, e95, e96, e97, d103, nm, seval]
    obtain rfl := kF _ h
    exact opd_bool Tryz.results8 rfl
   simp only [d103, hs] at h
   simp only [vz, tyf, b102, e91, e92, e93, e94, e95, e96, e97, d103, nm, seval]
   refine ktree0 g_law02_known_ok ?_
   try simp only [vz, tyf, b102, e91, e92, e93, e94, e95, e96, e97, d103, nm, seval]
   obtain rfl := kF _ h
   exact opd_bool Tryz.results8 rfl
  simp only [d98, hs] at h
  simp only [vz, tyf, d17, d18, d69, d83, e91, e92, e93, e94, e95, e96, e97, d98, nm, seval]
  refine cwp_drwQF (fun tm => tm 1 = .lit (.int .i64 x1_a1) ∧ tm 2 = .ptr 0 0 ∧ tm 5 = .lit (.int .i64 r70.1) ∧ tm 6 = .lit (.int .i64 r70.2.1) ∧ tm 7 = .lit (.int .i64 r70.2.2) ∧ True) (by refine ⟨e91, e92, e93, e94, e95, trivial⟩ <;> first | (simp only [ua, d17, d18, d69, d83, e91, e92, e93, e94, e95, e96, e97, d98, nm, seval] <;> rfl) | rfl) ?_
  rintro tm ⟨e104, e105, e106, e107, e108, _⟩
  rcases o110 : (getI x0_s.Boards x1_a1) with _ | x109
  ·simp only [o110, hs] at h
   exact absurd h kN
  simp only [o110, hs] at h
  rcases o112 : (g_ref02_Hang x0_s x109) with _ | r111
  ·simp only [o112, hs] at h
   exact absurd h kN
  simp only [o112, hs] at h
  simp only [vz, tyf, d17, d18, d69, d83, d98, e104, e105, e106, e107, e108, (ix24 o110), nm, seval]
  refine dktree (args0 := [.agg (cGSightStreet x0_s), .agg (cGSightBoard x109)]) (by first | (simp only [nrm, tynrm] <;> rfl) | rfl) (by simp only [tre, tytre, Bool.and_self]) (g_ref02_Hang_ok _ _ _ o112) ?_
  refine fin_cut (fun tm => tm 5 = .lit (.int .i64 r70.1) ∧ tm 6 = .lit (.int .i64 r70.2.1) ∧ tm 7 = .lit (.int .i64 r70.2.2) ∧ tm 60 = .tup [.lit (.int .i64 r111.1), .lit (.int .i64 r111.2)] ∧ True) (by refine ⟨e106, e107, e108, ?_, trivial⟩ <;> first | (simp only [ua, d17, d18, d69, d83, d98, e104, e105, e106, e107, e108, nm, seval] <;> rfl) | rfl) ?_
  rintro tm ⟨e113, e114, e115, e116, _⟩
  cases d117 : (r70.2.2 == 0)
  ·simp only [d117, hs] at h
   try simp only [vz, tyf, d17, d18, d69, d83, d98, (ix24 o110), e113, e114, e115, e116, d117, nm, seval]
   obtain rfl := kF _ h
   exact opd_bool Tryz.results8 rfl
  simp only [d117, hs] at h
  cases d118 : (r70.1 == r111.1)
  ·simp only [d118, hs] at h
   have b119 := And.intro d17 (And.intro d18 (And.intro d69 (And.intro d83 (And.intro d98 (And.intro d117 d118)))))
   try simp only [vz, tyf, b119, (ix24 o110), e113, e114, e115, e116, nm, seval]
   obtain rfl := kF _ h
   exact opd_bool Tryz.results8 rfl
  simp only [d118, hs] at h
  have b120 := And.intro d17 (And.intro d18 (And.intro d69 (And.intro d83 (And.intro d98 (And.intro d117 d118)))))
  cases d121 : (r70.2.1 == r111.2)
  ·simp only [d121, hs] at h
   try simp only [vz, tyf, b120, (ix24 o110), e113, e114, e115, e116, d121, nm, seval]
   obtain rfl := kF _ h
   exact opd_bool Tryz.results8 rfl
  simp only [d121, hs] at h
  simp only [vz, tyf, b120, (ix24 o110), e113, e114, e115, e116, d121, nm, seval]
  refine ktree0 g_law02_known_ok ?_
  try simp only [vz, tyf, b120, (ix24 o110), e113, e114, e115, e116, d121, nm, seval]
  obtain rfl := kF _ h
  exact opd_bool Tryz.results8 rfl
 simp only [d69, hs] at h
 simp only [vz, tyf, e14, e15, e16, d17, d18, d69, nm, seval]
 refine ktree0 g_law02_known_ok ?_
 try simp only [vz, tyf, e14, e15, e16, d17, d18, d69, nm, seval]
 obtain rfl := kF _ h
 exact opd_bool Tryz.results8 rfl
end Go.V
end
section
namespace Go.V
open Go
theorem SightHangs_true (s : GSightStreet) (n : Int) (h : FineS s) : g_law02_SightHangs s n = some true := by
 obtain ⟨bs, hb⟩ := short_some s h
 cases h1 : streetB s with
 | false =>
  simp only [g_law02_SightHangs, hb, Option.bind_some, refStreet_eq s h, refBoard_eq, g_sight_Hang, isStreet_eq s h, h1, cond_false]
  cases bs <;> cases decide (s.Length > 20) <;> cases decide (s.Length ≤ 40) <;> rfl
 | true =>
  cases h2 : numB s n with
  | false =>
   have h2' := h2
   simp only [numB] at h2'
   simp only [g_law02_SightHangs, hb, Option.bind_some, refStreet_eq s h, refBoard_eq, g_sight_Hang, isStreet_eq s h, isBoard_eq, h1, h2', cond_false, cond_true]
   cases bs <;> cases decide (s.Length > 20) <;> cases decide (s.Length ≤ 40) <;> rfl
  | true =>
   have h2' := h2
   simp only [numB] at h2'
   obtain ⟨b, b1, hl, hw, hg⟩ := all_good h1 h2
   simp only [g_law02_SightHangs, hb, Option.bind_some, refStreet_eq s h, refBoard_eq, h1, h2', cond_true, b1, refHang_eq hl hw hg, Hang_eq h h1 h2 b1 hl hw hg, beq_self_eq_true]
   cases bs <;> cases decide (s.Length > 20) <;> cases decide (s.Length ≤ 40) <;> rfl
end Go.V
end
