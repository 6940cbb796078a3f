/- Part of a proof: a logic of values by content, lifted functions, what follows. -/
import Derived.Test.YtbpeickbdiihcaaGreatDoorQbf
import Derived.Test.YtbpeickbdiihcaaGreatDoorQbi
import Derived.Test.YtbpeickbdiihcaaGreatDoorQbl
import Derived.Test.YtbpeickbdiihcaaGreatDoorQbk
import Derived.Test.YtbpeickbdiihcaaGreatDoorQbg
set_option linter.all false
set_option maxRecDepth 4000
set_option maxHeartbeats 4000000
section
namespace Go.V
open Go Go.Proofs
def g_sight_isSurelyRead (x0_s : GSightStreet) (x1_b : GSightBoard) (x2_from : GSightPlace) : Option (Bool) := Option.bind (g_sight_atWorst x0_s x1_b x2_from) (fun r1 => Option.bind (g_sight_view_isRead r1) (fun r2 => some r2))
theorem g_sight_isSurelyRead_ok (x0_s : GSightStreet) (x1_b : GSightBoard) (x2_from : GSightPlace) (R : Bool) (h : g_sight_isSurelyRead x0_s x1_b x2_from = some R) : VPure Tryz.prog G0 86 [.agg (cGSightStreet x0_s), .agg (cGSightBoard x1_b), .agg (cGSightPlace x2_from)] (.tree (.lit (.bool R))) := by
 refine VPure.runR mixed Tryz.call86 Tryz.func86 rfl (by simp [Tryz.ntmps86]; kernel_rfl) ?_
 obtain ⟨KF, h, kF, kN⟩ := fun_intro h
 simp only [g_sight_isSurelyRead] at h
 cases o4 : (g_sight_atWorst x0_s x1_b x2_from) with
 | none =>
  simp only [o4, hs, reduceCtorEq] at h
  exact absurd h kN
 | some r3 =>
  simp only [o4, hs, reduceCtorEq] at h
  simp only [vz, tyf, nm, seval]
  refine ktree (args0 := [.agg (cGSightStreet x0_s), .agg (cGSightBoard x1_b), .agg (cGSightPlace x2_from)]) (by first | (simp only [nrm, tynrm] <;> rfl) | rfl) (by simp only [tre, tytre, Bool.and_self]) (g_sight_atWorst_ok _ _ _ _ o4) ?_
  refine fin_cut (fun tm => tm 10 = .agg (cGsightview r3) ∧ True) (by refine ⟨?_, trivial⟩ <;> first | (simp only [ua, nm, seval] <;> rfl) | rfl) ?_
  rintro tm ⟨e5, _⟩
  cases o7 : (g_sight_view_isRead r3) with
  | none =>
   simp only [o7, hs, reduceCtorEq] at h
   exact absurd h kN
  | some r6 =>
   simp only [o7, hs, reduceCtorEq] at h
   simp only [vz, tyf, e5, nm, seval]
   refine ktree (args0 := [.agg (cGsightview r3)]) (by first | (simp only [nrm, tynrm] <;> rfl) | rfl) (by simp only [tre, tytre, Bool.and_self]) (g_sight_view_isRead_ok _ _ o7) ?_
   refine fin_cut (fun tm => tm 11 = .lit (.bool r6) ∧ True) (by refine ⟨?_, trivial⟩ <;> first | (simp only [ua, e5, nm, seval] <;> rfl) | rfl) ?_
   rintro tm ⟨e8, _⟩
   simp only [vz, tyf, e8, nm, seval]
   obtain rfl := kF _ h
   exact opd_bool Tryz.results86 (by first | rfl | (simp only [upd_apply, seval] <;> rfl))
end Go.V
end
section
namespace Go.V
open Go Go.Proofs
def g_sight_seen (x0_s : GSightStreet) (x1_b : GSightBoard) (x2_from : GSightPlace) : Option (Int) := Option.bind (g_sight_isSurelyRead x0_s x1_b x2_from) (fun r1 => cond (r1) (some 3) (Option.bind (g_sight_atBest x0_s x1_b x2_from) (fun r2 => Option.bind (g_sight_view_isRead r2) (fun r3 => cond (r3) (some 2) (some 1)))))
theorem g_sight_seen_ok (x0_s : GSightStreet) (x1_b : GSightBoard) (x2_from : GSightPlace) (R : Int) (h : g_sight_seen x0_s x1_b x2_from = some R) : VPure Tryz.prog G0 57 [.agg (cGSightStreet x0_s), .agg (cGSightBoard x1_b), .agg (cGSightPlace x2_from)] (.tree (.lit (.int .i64 R))) := by
 refine VPure.runR mixed Tryz.call57 Tryz.func57 rfl (by simp [Tryz.ntmps57]; kernel_rfl) ?_
 obtain ⟨KF, h, kF, kN⟩ := fun_intro h
 simp only [g_sight_seen] at h
 cases o5 : (g_sight_isSurelyRead x0_s x1_b x2_from) with
 | none =>
  simp only [o5, hs, reduceCtorEq] at h
  exact absurd h kN
 | some r4 =>
  simp only [o5, hs, reduceCtorEq] at h
  simp only [vz, tyf, nm, seval]
  refine ktree (args0 := [.agg (cGSightStreet x0_s), .agg (cGSightBoard x1_b), .agg (cGSightPlace x2_from)]) (by first | (simp only [nrm, tynrm] <;> rfl) | rfl) (by simp only [tre, tytre, Bool.and_self]) (g_sight_isSurelyRead_ok _ _ _ _ o5) ?_
  refine fin_cut (fun tm => tm 3 = .ptr 0 0 ∧ tm 4 = .ptr 1 0 ∧ tm 5 = .ptr 2 0 ∧ tm 10 = .lit (.bool r4) ∧ True) (by refine ⟨?_, ?_, ?_, ?_, trivial⟩ <;> first | (simp only [ua, nm, seval] <;> rfl) | rfl) ?_
  rintro tm ⟨e6, e7, e8, e9, _⟩
  cases d10 : (r4)
  ·simp only [d10, hs, reduceCtorEq] at h
   cases o12 : (g_sight_atBest x0_s x1_b x2_from) with
   | none =>
    simp only [o12, hs, reduceCtorEq] at h
    exact absurd h kN
   | some r11 =>
    simp only [o12, hs, reduceCtorEq] at h
    simp only [vz, tyf, e6, e7, e8, e9, d10, nm, seval]
    refine ktree (args0 := [.agg (cGSightStreet x0_s), .agg (cGSightBoard x1_b), .agg (cGSightPlace x2_from)]) (by first | (simp only [nrm, tynrm] <;> rfl) | rfl) (by simp only [tre, tytre, Bool.and_self]) (g_sight_atBest_ok _ _ _ _ o12) ?_
    refine fin_cut (fun tm => tm 14 = .agg (cGsightview r11) ∧ True) (by refine ⟨?_, trivial⟩ <;> first | (simp only [ua, e6, e7, e8, e9, d10, nm, seval] <;> rfl) | rfl) ?_
    rintro tm ⟨e13, _⟩
    cases o15 : (g_sight_view_isRead r11) with
    | none =>
     simp only [o15, hs, reduceCtorEq] at h
     exact absurd h kN
    | some r14 =>
     simp only [o15, hs, reduceCtorEq] at h
     simp only [vz, tyf, d10, e13, nm, seval]
     refine ktree (args0 := [.agg (cGsightview r11)]) (by first | (simp only [nrm, tynrm] <;> rfl) | rfl) (by simp only [tre, tytre, Bool.and_self]) (g_sight_view_isRead_ok _ _ o15) ?_
     refine fin_cut (fun tm => tm 15 = .lit (.bool r14) ∧ True) (by refine ⟨?_, trivial⟩ <;> first | (simp only [ua, d10, e13, nm, seval] <;> rfl) | rfl) ?_
     rintro tm ⟨e16, _⟩
     cases d17 : (r14)
     ·simp only [d17, hs, reduceCtorEq] at h
      simp only [vz, tyf, d10, e16, d17, nm, seval]
      refine opd_ret (x := (.lit (.int .i64 1))) (by first | (simp only [Tryz.results57, resV, resL, resV1, tgt_ptr, tgt_tp, uw, cr, tyf, d10, d17, nm, seval] <;> rfl) | rfl) ?_
      obtain rfl := kF _ h
      refine rr_tree ?_ ?_
      ·simp only [tre, tytre, Bool.and_self]
      ·first | (simp only [outV, uw, showV_ref, cr, tyf, nrm, tynrm, d10, e16, d17, nm, seval] <;> rfl) | rfl
     simp only [d17, hs, reduceCtorEq] at h
     simp only [vz, tyf, d10, e16, d17, nm, seval]
     refine opd_ret (x := (.lit (.int .i64 2))) (by first | (simp only [Tryz.results57, resV, resL, resV1, tgt_ptr, tgt_tp, uw, cr, tyf, d10, d17, nm, seval] <;> rfl) | rfl) ?_
     obtain rfl := kF _ h
     refine rr_tree ?_ ?_
     ·simp only [tre, tytre, Bool.and_self]
     ·first | (simp only [outV, uw, showV_ref, cr, tyf, nrm, tynrm, d10, e16, d17, nm, seval] <;> rfl) | rfl
  simp only [d10, hs, reduceCtorEq] at h
  simp only [vz, tyf, e6, e7, e8, e9, d10, nm, seval]
  refine opd_ret (x := (.lit (.int .i64 3))) (by first | (simp only [Tryz.results57, resV, resL, resV1, tgt_ptr, tgt_tp, uw, cr, tyf, d10, nm, seval] <;> rfl) | rfl) ?_
  obtain rfl := kF _ h
  refine rr_tree ?_ ?_
  ·simp only [tre, tytre, Bool.and_self]
  ·first | (simp only [outV, uw, showV_ref, cr, tyf, nrm, tynrm, e6, e7, e8, e9, d10, nm, seval] <;> rfl) | rfl
end Go.V
end
section
namespace Go.V
open Go Go.Proofs
def g_sight_Seen (x0_s : GSightStreet) (x1_board : Int) (x2_from : GSightPlace) : Option (Int × Int) := Option.bind (g_sight_isView x0_s x1_board x2_from) (fun r1 => cond (r1) (Option.bind (getI x0_s.Boards x1_board) (fun x2 => Option.bind (g_sight_seen x0_s x2 x2_from) (fun r3 => some (r3, 0)))) (some (0, 2)))
theorem g_sight_Seen_ok (x0_s : GSightStreet) (x1_board : Int) (x2_from : GSightPlace) (R : Int × Int) (h : g_sight_Seen x0_s x1_board x2_from = some R) : VPure Tryz.prog G0 18 [.agg (cGSightStreet x0_s), .lit (.int .i64 x1_board), .agg (cGSightPlace x2_from)] (.tree (.tup [.lit (.int .i64 R.1), .lit (.int .i64 R.2)])) := by
 refine VPure.runR mixed Tryz.call18 Tryz.func18 rfl (by simp [Tryz.ntmps18]; kernel_rfl) ?_
 obtain ⟨KF, h, kF, kN⟩ := fun_intro h
 simp only [g_sight_Seen] at h
 cases o5 : (g_sight_isView x0_s x1_board x2_from) with
 | none =>
  simp only [o5, hs, reduceCtorEq] at h
  exact absurd h kN
 | some r4 =>
  simp only [o5, hs, reduceCtorEq] at h
  simp only [vz, tyf, nm, seval]
  refine ktree (args0 := [.agg (cGSightStreet x0_s), .lit (.int .i64 x1_board), .agg (cGSightPlace x2_from)]) (by first | (simp only [nrm, tynrm] <;> rfl) | rfl) (by simp only [tre, tytre, Bool.and_self]) (g_sight_isView_ok _ _ _ _ o5) ?_
  refine fin_cut (fun tm => tm 1 = .lit (.int .i64 x1_board) ∧ tm 3 = .ptr 0 0 ∧ tm 5 = .ptr 1 0 ∧ tm 11 = .lit (.bool r4) ∧ True) (by refine ⟨?_, ?_, ?_, ?_, trivial⟩ <;> first | (simp only [ua, nm, seval] <;> rfl) | rfl) ?_
  rintro tm ⟨e6, e7, e8, e9, _⟩
  cases d10 : (r4)
  ·simp only [d10, hs, reduceCtorEq] at h
   simp only [vz, tyf, e6, e7, e8, e9, d10, nm, seval]
   refine opd_ret (x := (.tup [.lit (.int .i64 0), .lit (.int .i64 2)])) (by first | (simp only [Tryz.results18, resV, resL, resV1, tgt_ptr, tgt_tp, uw, cr, tyf, d10, nm, seval] <;> rfl) | rfl) ?_
   obtain rfl := kF _ h
   refine rr_tree ?_ ?_
   ·simp only [tre, tytre, Bool.and_self]
   ·first | (simp only [outV, uw, showV_ref, cr, tyf, nrm, tynrm, e6, e7, e8, e9, d10, nm, seval] <;> rfl) | rfl
  simp only [d10, hs, reduceCtorEq] at h
  simp only [vz, tyf, e6, e7, e8, e9, d10, nm, seval]
  refine cwp_drwQF (fun tm => tm 1 = .lit (.int .i64 x1_board) ∧ tm 3 = .ptr 0 0 ∧ tm 5 = .ptr 1 0 ∧ True) (by refine ⟨e6, e7, e8, trivial⟩ <;> first | (simp only [ua, e6, e7, e8, e9, d10, nm, seval] <;> rfl) | rfl) ?_
  rintro tm ⟨e11, e12, e13, _⟩
  cases o15 : (getI x0_s.Boards x1_board) with
  | none =>
   simp only [o15, hs, reduceCtorEq] at h
   exact absurd h kN
  | some x14 =>
   simp only [o15, hs, reduceCtorEq] at h
   cases o17 : (g_sight_seen x0_s x14 x2_from) with
   | none =>
    simp only [o17, hs, reduceCtorEq] at h
    exact absurd h kN
   | some r16 =>
    simp only [o17, hs, reduceCtorEq] at h
    simp only [vz, tyf, d10, e11, e12, e13, (ix24 o15), nm, seval]
    refine dktree (args0 := [.agg (cGSightStreet x0_s), .agg (cGSightBoard x14), .agg (cGSightPlace x2_from)]) (by first | (simp only [nrm, tynrm] <;> rfl) | rfl) (by simp only [tre, tytre, Bool.and_self]) (g_sight_seen_ok _ _ _ _ o17) ?_
    refine fin_cut (fun tm => tm 20 = .lit (.int .i64 r16) ∧ True) (by refine ⟨?_, trivial⟩ <;> first | (simp only [ua, d10, e11, e12, e13, nm, seval] <;> rfl) | rfl) ?_
    rintro tm ⟨e18, _⟩
    simp only [vz, tyf, d10, (ix24 o15), e18, nm, seval]
    refine opd_ret (x := (.tup [.lit (.int .i64 r16), .lit (.int .i64 0)])) (by first | (simp only [Tryz.results18, resV, resL, resV1, tgt_ptr, tgt_tp, uw, cr, tyf, d10, (ix24 o15), nm, seval] <;> rfl) | rfl) ?_
    obtain rfl := kF _ h
    refine rr_tree ?_ ?_
    ·simp only [tre, tytre, Bool.and_self]
    ·first | (simp only [outV, uw, showV_ref, cr, tyf, nrm, tynrm, d10, (ix24 o15), e18, nm, seval] <;> rfl) | rfl
end Go.V
end
section
namespace Go.V
open Go Go.Proofs
end Go.V
end
section
namespace Go.V
open Go Go.Proofs
end Go.V
end
section
namespace Go.V
open Go Go.Proofs
end Go.V
end
section
namespace Go.V
open Go Go.Proofs
end Go.V
end
section
namespace Go.V
open Go Go.Proofs
end Go.V
end
section
namespace Go.V
open Go Go.Proofs
end Go.V
end
section
namespace Go.V
open Go
def faultO (k : Int) (o : Option Int) : Option (LOut (GSightFault × Bool) Unit) := match o with | none => some (.go ()) | some i => some (.ret (⟨k, i⟩, true))
section
variable (v : Gsightview) (hp : PG v.board.At v.SightPlace) (hw : PW v.power)
include hp hw
theorem ff_l0 : ∀ (p : List GSightBlock) (c : Int), (∀ k ∈ p, BK k) → g_sight_view_firstFault_l0 v p c = faultO 1 (fnd (behB v.board.At v.SightPlace) p c)
 | [], _, _ => rfl
 | e :: p, c, h => by
  simp only [g_sight_view_firstFault_l0, isBehind_eq v e hp (h e (List.mem_cons_self ..)), Option.bind_some, g_sight_must, fnd]
  cases behB v.board.At v.SightPlace e with
  | true => rfl
  | false => exact ff_l0 p (c + 1) (fun k hk => h k (List.mem_cons_of_mem _ hk))
theorem ff_l1 : ∀ (p : List GSightLetter) (c : Int), 0 ≤ c → v.board.Letters.drop c.toNat = p → (∀ l ∈ p, BL l) → g_sight_view_firstFault_l1 v p c = faultO 2 (fnd (fun l => !tallB v.power v.board.At v.SightPlace l) p c)
 | [], _, _, _, _ => rfl
 | e :: p, c, h0, hd, h => by
  simp only [g_sight_view_firstFault_l1, isTall_eq v c e hp hw (h e (List.mem_cons_self ..)) (getI_of_drop h0 hd), Option.bind_some, g_sight_must, fnd]
  cases tallB v.power v.board.At v.SightPlace e with
  | false => rfl
  | true => exact ff_l1 p (c + 1) (by omega) (drop_next h0 hd) (fun k hk => h k (List.mem_cons_of_mem _ hk))
theorem ff_l2 : ∀ (p : List GSightLetter) (c : Int), 0 ≤ c → v.board.Letters.drop c.toNat = p → (∀ l ∈ p, BL l) → g_sight_view_firstFault_l2 v p c = faultO 3 (fnd (fun l => !broadB v.power v.board.At v.SightPlace l) p c)
 | [], _, _, _, _ => rfl
 | e :: p, c, h0, hd, h => by
  simp only [g_sight_view_firstFault_l2, isBroad_eq v c e hp hw (h e (List.mem_cons_self ..)) (getI_of_drop h0 hd), Option.bind_some, g_sight_must, fnd]
  cases broadB v.power v.board.At v.SightPlace e with
  | false => rfl
  | true => exact ff_l2 p (c + 1) (by omega) (drop_next h0 hd) (fun k hk => h k (List.mem_cons_of_mem _ hk))
theorem ff_l3 : ∀ (p : List GSightLetter) (c : Int), 0 ≤ c → v.board.Letters.drop c.toNat = p → (∀ l ∈ p, BL l) → g_sight_view_firstFault_l3 v p c = faultO 4 (fnd (fun l => !thickB v.power v.board.At v.SightPlace l) p c)
 | [], _, _, _, _ => rfl
 | e :: p, c, h0, hd, h => by
  simp only [g_sight_view_firstFault_l3, isThick_eq v c e hp hw (h e (List.mem_cons_self ..)) (getI_of_drop h0 hd), Option.bind_some, g_sight_must, fnd]
  cases thickB v.power v.board.At v.SightPlace e with
  | false => rfl
  | true => exact ff_l3 p (c + 1) (by omega) (drop_next h0 hd) (fun k hk => h k (List.mem_cons_of_mem _ hk))
theorem ff_l4 : ∀ (k : Nat) (c : Int), 0 ≤ c → c + k ≤ v.board.Letters.length → (∀ l ∈ v.board.Letters, BL l) → g_sight_view_firstFault_l4 v k c = faultO 5 (fnd (fun l => !apartB v.power v.board.At v.SightPlace l) ((v.board.Letters.drop c.toNat).take k) c)
 | 0, _, _, _, _ => by simp only [g_sight_view_firstFault_l4, List.take_zero, fnd, faultO]
 | k + 1, c, h0, hk, h => by
  obtain ⟨e, he, hm⟩ := getI_some (xs := v.board.Letters) (i := c) h0 (by omega)
  have hd := (getI_drop he).2.2
  have hn : c.toNat + 1 = (c + 1).toNat := by omega
  rw [hd, List.take_succ_cons]
  simp only [g_sight_view_firstFault_l4, isApart_eq v c e hp hw (h e hm) he, Option.bind_some, g_sight_must, fnd, hn]
  cases apartB v.power v.board.At v.SightPlace e with
  | false => rfl
  | true => exact ff_l4 k (c + 1) (by omega) (by omega) h
end
def whyF (w a : Int) (p : GSightPlace) (ks : List GSightBlock) (ls : List GSightLetter) : Option GSightFault :=
 match fnd (behB a p) ks 0 with
 | some i => some ⟨1, i⟩
 | none => match fnd (fun l => !tallB w a p l) ls 0 with
  | some i => some ⟨2, i⟩
  | none => match fnd (fun l => !broadB w a p l) ls 0 with
   | some i => some ⟨3, i⟩
   | none => match fnd (fun l => !thickB w a p l) ls 0 with
    | some i => some ⟨4, i⟩
    | none => match fnd (fun l => !apartB w a p l) (ls.take (ls.length - 1)) 0 with
     | some i => some ⟨5, i⟩
     | none => none
def whyP (o : Option GSightFault) : GSightFault × Bool := match o with | some f => (f, true) | none => (⟨0, 0⟩, false)
theorem firstFault_eq (v : Gsightview) (hp : PG v.board.At v.SightPlace) (hw : PW v.power) (hl : ∀ l ∈ v.board.Letters, BL l) (hn : 1 ≤ v.board.Letters.length) (hn2 : v.board.Letters.length ≤ 5) (hk : ∀ k ∈ v.SightStreet.Blocks, BK k) (hb : v.SightStreet.Blocks.length ≤ 4) :
  g_sight_view_firstFault v = some (whyP (whyF v.power v.board.At v.SightPlace v.SightStreet.Blocks v.board.Letters)) := by
 have l1 : lenOk v.SightStreet.Blocks = true := lenOk_of (by omega)
 have l2 : lenOk v.board.Letters = true := lenOk_of (by omega)
 have w1 : IntKind.i64.wrap ((v.board.Letters.length : Int) - 1) = (v.board.Letters.length : Int) - 1 := wrap_eq (by omega) (by omega)
 have b1 : boundOk ((v.board.Letters.length : Int) - 1) = true := by unfold boundOk; exact decide_eq_true (by omega)
 have t1 : (((v.board.Letters.length : Int) - 1) - 0).toNat = v.board.Letters.length - 1 := by omega
 simp only [g_sight_view_firstFault, l1, l2, cond_true, ff_l0 v hp hw _ _ hk, ff_l1 v hp hw v.board.Letters 0 (by omega) rfl hl, ff_l2 v hp hw v.board.Letters 0 (by omega) rfl hl, ff_l3 v hp hw v.board.Letters 0 (by omega) rfl hl, w1, b1, t1, ff_l4 v hp hw (v.board.Letters.length - 1) 0 (by omega) (by omega) hl, whyF]
 cases fnd (behB v.board.At v.SightPlace) v.SightStreet.Blocks 0 with
 | some i => rfl
 | none =>
  simp only [faultO, lbind_go]
  cases fnd (fun l => !tallB v.power v.board.At v.SightPlace l) v.board.Letters 0 with
  | some i => rfl
  | none =>
   simp only [lbind_go]
   cases fnd (fun l => !broadB v.power v.board.At v.SightPlace l) v.board.Letters 0 with
   | some i => rfl
   | none =>
    simp only [lbind_go]
    cases fnd (fun l => !thickB v.power v.board.At v.SightPlace l) v.board.Letters 0 with
    | some i => rfl
    | none =>
     simp only [lbind_go]
     have e : List.drop (Int.toNat 0) v.board.Letters = v.board.Letters := rfl
     rw [e]
     cases fnd (fun l => !apartB v.power v.board.At v.SightPlace l) (v.board.Letters.take (v.board.Letters.length - 1)) 0 with
     | some i => rfl
     | none => rfl
def clearB (w a : Int) (p : GSightPlace) : List GSightLetter → Bool
 | [] => true
 | [e] => legB w a p e
 | e :: e' :: ls => legB w a p e && (apartB w a p e && clearB w a p (e' :: ls))
theorem clear_iff {w a : Int} {p : GSightPlace} : ∀ (ls : List GSightLetter), clearB w a p ls = true ↔ (∀ l ∈ ls, legB w a p l = true) ∧ ∀ l ∈ ls.take (ls.length - 1), apartB w a p l = true
 | [] => by simp [clearB]
 | [e] => by simp [clearB]
 | e :: e' :: ls => by
  have ih := clear_iff (w := w) (a := a) (p := p) (e' :: ls)
  have ht : (e :: e' :: ls).take ((e :: e' :: ls).length - 1) = e :: (e' :: ls).take ((e' :: ls).length - 1) := by simp
  rw [ht]
  unfold clearB
  rw [Bool.and_eq_true, Bool.and_eq_true, ih]
  constructor
  ·rintro ⟨h1, h2, h3, h4⟩
   constructor
   ·intro l hl
    rcases List.mem_cons.1 hl with rfl | hl
    ·exact h1
    ·exact h3 l hl
   ·intro l hl
    rcases List.mem_cons.1 hl with rfl | hl
    ·exact h2
    ·exact h4 l hl
  ·rintro ⟨h1, h2⟩
   exact ⟨h1 e (List.mem_cons_self ..), h2 e (List.mem_cons_self ..), fun l hl => h1 l (List.mem_cons_of_mem _ hl), fun l hl => h2 l (List.mem_cons_of_mem _ hl)⟩
theorem leg_iff {w a : Int} {p : GSightPlace} {l : GSightLetter} : legB w a p l = true ↔ tallB w a p l = true ∧ broadB w a p l = true ∧ thickB w a p l = true := by
 simp [legB]
theorem why_none {w a : Int} {p : GSightPlace} {ks : List GSightBlock} {ls : List GSightLetter} : whyF w a p ks ls = none ↔ (∀ k ∈ ks, behB a p k = false) ∧ clearB w a p ls = true := by
 rw [clear_iff]
 unfold whyF
 cases h0 : fnd (behB a p) ks 0 with
 | some i =>
  simp only [reduceCtorEq, false_iff, not_and]
  intro h
  rw [(fnd_none ks 0).2 h] at h0; cases h0
 | none =>
  have g0 := (fnd_none ks 0).1 h0
  cases h1 : fnd (fun l => !tallB w a p l) ls 0 with
  | some i =>
   simp only [reduceCtorEq, false_iff, not_and]
   intro _ h
   rw [(fnd_none ls 0).2 (fun l hl => by simp [(leg_iff.1 (h l hl)).1])] at h1; cases h1
  | none =>
   have g1 := (fnd_none ls 0).1 h1
   cases h2 : fnd (fun l => !broadB w a p l) ls 0 with
   | some i =>
    simp only [reduceCtorEq, false_iff, not_and]
    intro _ h
    rw [(fnd_none ls 0).2 (fun l hl => by simp [(leg_iff.1 (h l hl)).2.1])] at h2; cases h2
   | none =>
    have g2 := (fnd_none ls 0).1 h2
    cases h3 : fnd (fun l => !thickB w a p l) ls 0 with
    | some i =>
     simp only [reduceCtorEq, false_iff, not_and]
     intro _ h
     rw [(fnd_none ls 0).2 (fun l hl => by simp [(leg_iff.1 (h l hl)).2.2])] at h3; cases h3
    | none =>
     have g3 := (fnd_none ls 0).1 h3
     cases h4 : fnd (fun l => !apartB w a p l) (ls.take (ls.length - 1)) 0 with
     | some i =>
      simp only [reduceCtorEq, false_iff, not_and]
      intro _ _ h
      rw [(fnd_none _ 0).2 (fun l hl => by simp [h l hl])] at h4; cases h4
     | none =>
      have g4 := (fnd_none _ 0).1 h4
      simp only [true_iff]
      exact ⟨g0, fun l hl => leg_iff.2 ⟨by simpa using g1 l hl, by simpa using g2 l hl, by simpa using g3 l hl⟩, fun l hl => by simpa using g4 l hl⟩
def readB (w a : Int) (p : GSightPlace) (ks : List GSightBlock) (ls : List GSightLetter) : Bool := clearB w a p ls && ks.all (fun k => !behB a p k)
theorem isRead_eq (v : Gsightview) (hp : PG v.board.At v.SightPlace) (hw : PW v.power) (hl : ∀ l ∈ v.board.Letters, BL l) (hn : 1 ≤ v.board.Letters.length) (hn2 : v.board.Letters.length ≤ 5) (hk : ∀ k ∈ v.SightStreet.Blocks, BK k) (hb : v.SightStreet.Blocks.length ≤ 4) :
  g_sight_view_isRead v = some (readB v.power v.board.At v.SightPlace v.SightStreet.Blocks v.board.Letters) := by
 simp only [g_sight_view_isRead, firstFault_eq v hp hw hl hn hn2 hk hb, Option.bind_some, Option.some.injEq]
 cases h : whyF v.power v.board.At v.SightPlace v.SightStreet.Blocks v.board.Letters with
 | none =>
  have := why_none.1 h
  symm
  simp only [whyP, readB, this.2, Bool.true_and, Bool.not_false, List.all_eq_true]
  intro k hk; simp [this.1 k hk]
 | some f =>
  have hne : ¬ ((∀ k ∈ v.SightStreet.Blocks, behB v.board.At v.SightPlace k = false) ∧ clearB v.power v.board.At v.SightPlace v.board.Letters = true) := by
   rw [← why_none, h]; simp
  simp only [whyP, readB, Bool.not_true]
  symm
  rw [Bool.eq_false_iff]
  intro hr
  rw [Bool.and_eq_true, List.all_eq_true] at hr
  exact hne ⟨fun k hk => by simpa using hr.2 k hk, hr.1⟩
def hids {α : Type} (f : α → Bool) : List α → Int → List Int
 | [], _ => []
 | e :: p, i => cond (f e) (i :: hids f p (i + 1)) (hids f p (i + 1))
theorem hids_len {α : Type} {f : α → Bool} : ∀ (p : List α) (i : Int), (hids f p i).length ≤ p.length
 | [], _ => Nat.le_refl _
 | e :: p, i => by
  unfold hids
  have := hids_len (f := f) p (i + 1)
  cases f e <;> simp <;> omega
theorem hids_fnd {α : Type} {f : α → Bool} : ∀ (p : List α) (i : Int), (hids f p i)[0]? = fnd f p i
 | [], _ => rfl
 | e :: p, i => by
  unfold hids fnd
  cases f e
  ·exact hids_fnd p (i + 1)
  ·rfl
theorem room_small {n : Nat} (b : Nat) (h : n ≤ 1000) (hb : b ≤ 100) : roomOk b n = true := by
 unfold roomOk
 refine decide_eq_true ?_
 have : n * b ≤ 1000 * 100 := Nat.mul_le_mul h hb
 omega
theorem goods {s : GSightStreet} {b : GSightBoard} {p : GSightPlace} (h : Good s b p) : PG b.At p ∧ (∀ l ∈ b.Letters, BL l) ∧ (∀ k ∈ s.Blocks, BK k) ∧ PW (s.Eye.Low * s.Light.Low) ∧ PW (s.Eye.High * s.Light.High) := by
 refine ⟨⟨h.a0, h.a1, h.p0, h.p1, h.q0, h.q1⟩, ?_, h.blks, ?_, ?_⟩
 ·intro l hl
  have := h.lets l hl
  simp only [letterB, Bool.and_eq_true, inB_iff] at this
  unfold BL; omega
 ·have h1 := h.el; have h2 := h.em; have h3 := h.eh; have h4 := h.ll; have h5 := h.lm; have h6 := h.lh
  exact mulR (a := s.Eye.Low) (A := 40) (b := s.Light.Low) (B := 100) (by omega) (by omega) (by omega) (by omega)
 ·have h1 := h.el; have h2 := h.em; have h3 := h.eh; have h4 := h.ll; have h5 := h.lm; have h6 := h.lh
  exact mulR (a := s.Eye.High) (A := 40) (b := s.Light.High) (B := 100) (by omega) (by omega) (by omega) (by omega)
theorem pw_wrap {w : Int} (h : PW w) : IntKind.i64.wrap w = w := wrap_eq (by unfold PW at h; omega) (by unfold PW at h; omega)
def sureB (s : GSightStreet) (b : GSightBoard) (p : GSightPlace) : Bool := clearB (s.Eye.Low * s.Light.Low) b.At p b.Letters && s.Blocks.all (fun k => !behB b.At p k)
def mayB (s : GSightStreet) (b : GSightBoard) (p : GSightPlace) : Bool := clearB (s.Eye.High * s.Light.High) b.At p b.Letters && s.Blocks.all (fun k => !(behB b.At p k && k.Sure))
def seenI (s : GSightStreet) (b : GSightBoard) (p : GSightPlace) : Int := cond (sureB s b p) 3 (cond (mayB s b p) 2 1)
theorem atBest_l0_eq : ∀ (ks : List GSightBlock) (i : Int) (acc : List GSightBlock), acc.length + ks.length ≤ 100 → g_sight_atBest_l0 ks i acc = some (.go (acc ++ ks.filter (fun k => k.Sure)))
 | [], _, acc, _ => by simp [g_sight_atBest_l0]
 | e :: ks, i, acc, hl => by
  simp only [List.length_cons] at hl
  simp only [g_sight_atBest_l0, List.filter_cons]
  cases e.Sure with
  | true =>
   rw [room_small 40 (by simp; omega) (by omega)]
   simp only [cond_true, if_pos]
   rw [atBest_l0_eq ks (i + 1) (acc ++ [e]) (by simp; omega)]
   simp
  | false => exact atBest_l0_eq ks (i + 1) acc (by omega)
theorem filter_len {ks : List GSightBlock} : (ks.filter (fun k => k.Sure)).length ≤ ks.length := List.length_filter_le ..
theorem seen_eq (s : GSightStreet) (b : GSightBoard) (p : GSightPlace) (h : Good s b p) : g_sight_seen s b p = some (seenI s b p) := by
 obtain ⟨hp, hl, hk, w1, w2⟩ := goods h
 have hb := h.nb
 have l1 : lenOk s.Blocks = true := lenOk_of (by omega)
 have r1 := isRead_eq ⟨s, p, b, s.Eye.Low * s.Light.Low⟩ hp w1 hl h.n1 h.n5 hk hb
 have r2 := isRead_eq ⟨⟨s.Length, s.Width, s.Eye, s.Light, s.Boards, s.Blocks.filter (fun k => k.Sure)⟩, p, b, s.Eye.High * s.Light.High⟩ hp w2 hl h.n1 h.n5 (fun k hk' => hk k (List.mem_filter.1 hk').1) (Nat.le_trans filter_len hb)
 simp only [readB] at r1 r2
 have e : (s.Blocks.filter (fun k => k.Sure)).all (fun k => !behB b.At p k) = s.Blocks.all (fun k => !(behB b.At p k && k.Sure)) := by
  rw [List.all_filter]
  congr 1
  funext k
  cases behB b.At p k <;> cases k.Sure <;> rfl
 rw [e] at r2
 simp only [g_sight_seen, g_sight_isSurelyRead, g_sight_atWorst, g_sight_atBest, pw_wrap w1, pw_wrap w2, l1, cond_true, atBest_l0_eq s.Blocks 0 [] (by simp; omega), List.nil_append, lbind_go, Option.bind_some, r1, r2, seenI, sureB, mayB]
 cases (clearB (s.Eye.Low * s.Light.Low) b.At p b.Letters && s.Blocks.all (fun k => !behB b.At p k)) <;> cases (clearB (s.Eye.High * s.Light.High) b.At p b.Letters && s.Blocks.all (fun k => !(behB b.At p k && k.Sure))) <;> rfl
theorem Seen_eq (s : GSightStreet) (n : Int) (p : GSightPlace) (h : FineS s) : (∃ b, getI s.Boards n = some b ∧ b ∈ s.Boards ∧ Good s b p ∧ streetB s = true ∧ numB s n = true ∧ placeB s p = true ∧ g_sight_Seen s n p = some (seenI s b p, 0)) ∨ ((streetB s && (numB s n && placeB s p)) = false ∧ g_sight_Seen s n p = some (0, 2)) := by
 simp only [g_sight_Seen, isView_eq s n p h, Option.bind_some]
 cases h1 : streetB s with
 | false => exact .inr ⟨rfl, rfl⟩
 | true =>
  cases h2 : numB s n with
  | false => exact .inr ⟨rfl, rfl⟩
  | true =>
   cases h3 : placeB s p with
   | false => exact .inr ⟨rfl, rfl⟩
   | true =>
    obtain ⟨b, b1, b2, b3⟩ := good_of h1 h2 h3
    refine .inl ⟨b, b1, b2, b3, rfl, rfl, rfl, ?_⟩
    simp only [Bool.and_self, cond_true, b1, Option.bind_some, seen_eq s b p b3]
end Go.V
end
section
namespace Go.V
open Go
theorem sq_mono {x y : Int} (h0 : 0 ≤ x) (h : x ≤ y) : x * x ≤ y * y := Int.mul_le_mul h h h0 (Int.le_trans h0 h)
theorem reach_mono {w w' a : Int} {p : GSightPlace} {h : Int} (h0 : 0 ≤ h) (hw : 0 ≤ w) (hw' : w ≤ w') (hr : reachB w a p h = true) : reachB w' a p h = true := by
 unfold reachB at hr ⊢
 have h1 := of_decide_eq_true hr
 have h2 : h * w ≤ h * w' := Int.mul_le_mul_of_nonneg_left hw' h0
 have h3 := sq_mono (Int.mul_nonneg h0 hw) h2
 exact decide_eq_true (Int.le_trans h1 h3)
theorem spread_mono {w w' a : Int} {p : GSightPlace} {h : Int} (h0 : 0 ≤ h) (hq : 0 ≤ p.Across) (hw' : w ≤ w') (hr : spreadB w a p h = true) : spreadB w' a p h = true := by
 unfold spreadB at hr ⊢
 have h1 := of_decide_eq_true hr
 have h2 : h * w ≤ h * w' := Int.mul_le_mul_of_nonneg_left hw' h0
 have h3 : h * w * p.Across ≤ h * w' * p.Across := Int.mul_le_mul_of_nonneg_right h2 hq
 exact decide_eq_true (Int.le_trans h1 h3)
theorem leg_mono {w w' a : Int} {p : GSightPlace} {l : GSightLetter} (hl : BL l) (hp : PG a p) (hw : 0 ≤ w) (hw' : w ≤ w') (h : legB w a p l = true) : legB w' a p l = true := by
 unfold BL at hl
 unfold PG at hp
 obtain ⟨h1, h2, h3⟩ := leg_iff.1 h
 exact leg_iff.2 ⟨reach_mono (by omega) hw hw' h1, spread_mono (by omega) (by omega) hw' h2, reach_mono (by omega) hw hw' h3⟩
theorem apart_mono {w w' a : Int} {p : GSightPlace} {l : GSightLetter} (hl : BL l) (hp : PG a p) (hw' : w ≤ w') (h : apartB w a p l = true) : apartB w' a p l = true := by
 unfold BL at hl
 unfold PG at hp
 exact spread_mono (by omega) (by omega) hw' h
end Go.V
end
section
namespace Go.V
def cmb : Option Bool → List Bool → Option (Option Bool)
  | st, [] => some st
  | none, x :: l => cmb (some x) l
  | some b, x :: l => cond (b == x) (cmb (some b) l) none
def ea : Option Bool → Bool | none => true | some b => b
def eo : Option Bool → Bool | none => false | some b => b
theorem cmb_append : ∀ (a b : List Bool) (st : Option Bool), cmb st (a ++ b) = match cmb st a with | some st' => cmb st' b | none => none
  | [], _, none => rfl
  | [], _, some _ => rfl
  | x :: a, b, none => cmb_append a b (some x)
  | x :: a, b, some y => by
    simp only [List.cons_append, cmb]
    cases y == x
    · rfl
    · exact cmb_append a b (some y)
def rowT (T : Int → Bool) : Nat → Int → List Bool
  | 0, _ => []
  | k + 1, c => T c :: rowT T k (c + 1)
def gridT (T : Int → Int → Bool) (n : Nat) : Nat → Int → List Bool
  | 0, _ => []
  | k + 1, c => rowT (T c) n 0 ++ gridT T n k (c + 1)
theorem mem_row {T : Int → Bool} {b : Bool} : ∀ (k : Nat) (c : Int), b ∈ rowT T k c ↔ ∃ i : Int, c ≤ i ∧ i < c + k ∧ b = T i
  | 0, c => by
    simp only [rowT, List.not_mem_nil, false_iff]
    rintro ⟨i, h1, h2, _⟩; omega
  | k + 1, c => by
    rw [rowT, List.mem_cons, mem_row k (c + 1)]
    constructor
    · rintro (rfl | ⟨i, h1, h2, h3⟩)
      · exact ⟨c, by omega, by omega, rfl⟩
      · exact ⟨i, by omega, by omega, h3⟩
    · rintro ⟨i, h1, h2, h3⟩
      by_cases hi : i = c
      · subst hi; exact .inl h3
      · exact .inr ⟨i, by omega, by omega, h3⟩
theorem mem_grid {T : Int → Int → Bool} {n : Nat} {b : Bool} : ∀ (k : Nat) (c : Int), b ∈ gridT T n k c ↔ ∃ i j : Int, c ≤ i ∧ i < c + k ∧ 0 ≤ j ∧ j < n ∧ b = T i j
  | 0, c => by
    simp only [gridT, List.not_mem_nil, false_iff]
    rintro ⟨i, j, h1, h2, _⟩; omega
  | k + 1, c => by
    rw [gridT, List.mem_append, mem_row, mem_grid k (c + 1)]
    constructor
    · rintro (⟨j, h1, h2, h3⟩ | ⟨i, j, h1, h2, h3⟩)
      · exact ⟨c, j, by omega, by omega, by omega, by omega, h3⟩
      · exact ⟨i, j, by omega, by omega, h3⟩
    · rintro ⟨i, j, h1, h2, h3, h4, h5⟩
      by_cases hi : i = c
      · subst hi; exact .inl ⟨j, h3, by omega, h5⟩
      · exact .inr ⟨i, j, by omega, by omega, h3, h4, h5⟩
def wordT (o : Option (Option Bool)) : Int := match o with | some (some true) => 3 | some none => 3 | some (some false) => 1 | none => 2
theorem cmb_some {x : Bool} : ∀ (l : List Bool), (∀ b ∈ l, b = x) → cmb (some x) l = some (some x)
  | [], _ => rfl
  | b :: l, h => by
    have hb := h b (List.mem_cons_self ..)
    subst hb
    simp only [cmb, beq_self_eq_true, cond_true]
    exact cmb_some l (fun c hc => h c (List.mem_cons_of_mem _ hc))
theorem cmb_none {x : Bool} : ∀ (l : List Bool), (!x) ∈ l → cmb (some x) l = none
  | [], h => by cases h
  | b :: l, h => by
    simp only [cmb]
    cases hx : x == b with
    | false => rfl
    | true =>
      have : x = b := by simpa using hx
      subst this
      rcases List.mem_cons.1 h with h | h
      · cases x <;> cases h
      · exact cmb_none l h
theorem word_grid {L : List Bool} {m M : Bool} (hm : m ∈ L) (hM : M ∈ L) (h1 : m = true → ∀ b ∈ L, b = true) (h2 : M = false → ∀ b ∈ L, b = false) : wordT (cmb none L) = cond m 3 (cond M 2 1) := by
  cases L with
  | nil => cases hm
  | cons x l =>
    simp only [cmb]
    cases m with
    | true =>
      have h := h1 rfl
      have hx := h x (List.mem_cons_self ..)
      subst hx
      rw [cmb_some l (fun b hb => h b (List.mem_cons_of_mem _ hb))]
      rfl
    | false =>
      cases M with
      | false =>
        have h := h2 rfl
        have hx := h x (List.mem_cons_self ..)
        subst hx
        rw [cmb_some l (fun b hb => h b (List.mem_cons_of_mem _ hb))]
        rfl
      | true =>
        have : (!x) ∈ l := by
          cases x with
          | true => rcases List.mem_cons.1 hm with h | h; · cases h
                    · exact h
          | false => rcases List.mem_cons.1 hM with h | h; · cases h
                     · exact h
        rw [cmb_none l this]
        rfl
end Go.V
end
