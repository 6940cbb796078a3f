/- Part of a proof: a logic of values by content, lifted functions, what follows. -/
import Derived.Test.YtbpeickbdiihcaaGreatDoorQbf
import Derived.Test.YtbpeickbdiihcaaGreatDoorQbi
import Derived.Test.YtbpeickbdiihcaaGreatDoorQbj
set_option linter.all false
set_option maxRecDepth 4000
set_option maxHeartbeats 4000000
section
namespace Go.V
open Go Go.Proofs
def g_sight_view_isLegible (x0_v : Gsightview) (x1_letter : Int) : Option (Bool) := Option.bind (g_sight_view_isTall x0_v x1_letter) (fun r1 => cond (r1) (Option.bind (g_sight_view_isBroad x0_v x1_letter) (fun r2 => cond (r2) (Option.bind (g_sight_view_isThick x0_v x1_letter) (fun r3 => cond (r3) (some true) (some false))) (some false))) (some false))
theorem g_sight_view_isLegible_ok (x0_v : Gsightview) (x1_letter : Int) (R : Bool) (h : g_sight_view_isLegible x0_v x1_letter = some R) : VPure Tryz.prog G0 70 [.agg (cGsightview x0_v), .lit (.int .i64 x1_letter)] (.tree (.lit (.bool R))) := by
 refine VPure.runR mixed Tryz.call70 Tryz.func70 rfl (by simp [Tryz.ntmps70]; kernel_rfl) ?_
 obtain ⟨KF, h, kF, kN⟩ := fun_intro h
 simp only [g_sight_view_isLegible] at h
 simp only [vz, tyf, nm, seval]
 refine kopen ?_
 rw [openK_eq]
 refine VOpen.run mixed Tryz.call106 Tryz.func106 rfl (by simp [Tryz.ntmps106]; kernel_rfl) ?_
 simp only [vz, tyf, nm, seval]
 refine opd_ret (x := (.agg ([.fn (.func 124) [] []] ++ [.fn (.func 125) [] []] ++ [.fn (.func 126) [] []]))) (by first | (simp only [Tryz.results106, resV, resL, resV1, tgt_ptr, tgt_tp, uw, cr, tyf, nm, seval] <;> rfl) | rfl) ?_
 simp only [vz, tyf, nm, seval]
 refine cwp_rounds mixed (by kernel_rfl) 4 ?_
 cases o5 : (g_sight_view_isTall x0_v x1_letter) with
 | none =>
  simp only [o5, hs, reduceCtorEq] at h
  exact absurd h kN
 | some r4 =>
  simp only [o5, hs, reduceCtorEq] at h
  simp only [vz, tyf, nm, seval]
  refine ktree (args0 := [.agg (cGsightview x0_v), .lit (.int .i64 x1_letter)]) (by first | (simp only [nrm, tynrm] <;> rfl) | rfl) (by simp only [tre, tytre, Bool.and_self]) (g_sight_view_isTall_ok _ _ _ o5) ?_
  refine fin_cut (fun tm => tm 1 = .lit (.int .i64 x1_letter) ∧ tm 2 = .ptr 0 0 ∧ tm 7 = .agg ([.fn (.func 124) [] []] ++ [.fn (.func 125) [] []] ++ [.fn (.func 126) [] []]) ∧ tm 8 = .lit (.int .i64 0) ∧ tm 14 = .lit (.bool r4) ∧ True) (by refine ⟨?_, ?_, ?_, ?_, ?_, trivial⟩ <;> first | (simp only [ua, nm, seval] <;> rfl) | rfl) ?_
  rintro tm ⟨e6, e7, e8, e9, e10, _⟩
  cases d11 : (r4)
  ·simp only [d11, hs, reduceCtorEq] at h
   simp only [vz, tyf, e6, e7, e8, e9, e10, d11, nm, seval]
   obtain rfl := kF _ h
   exact opd_bool Tryz.results70 (by first | rfl | (simp only [upd_apply, seval] <;> rfl))
  simp only [d11, hs, reduceCtorEq] at h
  cases o13 : (g_sight_view_isBroad x0_v x1_letter) with
  | none =>
   simp only [o13, hs, reduceCtorEq] at h
   exact absurd h kN
  | some r12 =>
   simp only [o13, hs, reduceCtorEq] at h
   simp only [vz, tyf, e6, e7, e8, e9, e10, d11, nm, seval]
   refine ktree (args0 := [.agg (cGsightview x0_v), .lit (.int .i64 x1_letter)]) (by first | (simp only [nrm, tynrm] <;> rfl) | rfl) (by simp only [tre, tytre, Bool.and_self]) (g_sight_view_isBroad_ok _ _ _ o13) ?_
   refine fin_cut (fun tm => tm 1 = .lit (.int .i64 x1_letter) ∧ tm 2 = .ptr 0 0 ∧ tm 7 = .agg ([.fn (.func 124) [] []] ++ [.fn (.func 125) [] []] ++ [.fn (.func 126) [] []]) ∧ tm 8 = .lit (.int .i64 1) ∧ tm 14 = .lit (.bool r12) ∧ True) (by refine ⟨e6, e7, e8, ?_, ?_, trivial⟩ <;> first | (simp only [ua, e6, e7, e8, e9, e10, d11, nm, seval] <;> rfl) | rfl) ?_
   rintro tm ⟨e14, e15, e16, e17, e18, _⟩
   cases d19 : (r12)
   ·simp only [d19, hs, reduceCtorEq] at h
    simp only [vz, tyf, d11, e14, e15, e16, e17, e18, d19, nm, seval]
    obtain rfl := kF _ h
    exact opd_bool Tryz.results70 (by first | rfl | (simp only [upd_apply, seval] <;> rfl))
   simp only [d19, hs, reduceCtorEq] at h
   cases o21 : (g_sight_view_isThick x0_v x1_letter) with
   | none =>
    simp only [o21, hs, reduceCtorEq] at h
    exact absurd h kN
   | some r20 =>
    simp only [o21, hs, reduceCtorEq] at h
    simp only [vz, tyf, d11, e14, e15, e16, e17, e18, d19, nm, seval]
    refine ktree (args0 := [.agg (cGsightview x0_v), .lit (.int .i64 x1_letter)]) (by first | (simp only [nrm, tynrm] <;> rfl) | rfl) (by simp only [tre, tytre, Bool.and_self]) (g_sight_view_isThick_ok _ _ _ o21) ?_
    refine fin_cut (fun tm => tm 1 = .lit (.int .i64 x1_letter) ∧ tm 2 = .ptr 0 0 ∧ tm 7 = .agg ([.fn (.func 124) [] []] ++ [.fn (.func 125) [] []] ++ [.fn (.func 126) [] []]) ∧ tm 8 = .lit (.int .i64 2) ∧ tm 14 = .lit (.bool r20) ∧ True) (by refine ⟨e14, e15, e16, ?_, ?_, trivial⟩ <;> first | (simp only [ua, d11, e14, e15, e16, e17, e18, d19, nm, seval] <;> rfl) | rfl) ?_
    rintro tm ⟨e22, e23, e24, e25, e26, _⟩
    cases d27 : (r20)
    ·simp only [d27, hs, reduceCtorEq] at h
     simp only [vz, tyf, d11, d19, e22, e23, e24, e25, e26, d27, nm, seval]
     obtain rfl := kF _ h
     exact opd_bool Tryz.results70 (by first | rfl | (simp only [upd_apply, seval] <;> rfl))
    simp only [d27, hs, reduceCtorEq] at h
    simp only [vz, tyf, d11, d19, e22, e23, e24, e25, e26, d27, nm, seval]
    obtain rfl := kF _ h
    exact opd_bool Tryz.results70 (by first | rfl | (simp only [upd_apply, seval] <;> rfl))
end Go.V
end
section
namespace Go.V
open Go Go.Proofs
def g_sight_view_lineAt (x0_v : Gsightview) (x1_across : Int) : Option (Int) := some (IntKind.i64.wrap ((IntKind.i64.wrap (x0_v.board.At * x0_v.SightPlace.Across)) + (IntKind.i64.wrap ((IntKind.i64.wrap (x0_v.SightPlace.Along - x0_v.board.At)) * x1_across))))
theorem g_sight_view_lineAt_ok (x0_v : Gsightview) (x1_across : Int) (R : Int) (h : g_sight_view_lineAt x0_v x1_across = some R) : VPure Tryz.prog G0 108 [.agg (cGsightview x0_v), .lit (.int .i64 x1_across)] (.tree (.lit (.int .i64 R))) := by
 refine VPure.runR mixed Tryz.call108 Tryz.func108 rfl (by simp [Tryz.ntmps108]; kernel_rfl) ?_
 obtain ⟨KF, h, kF, kN⟩ := fun_intro h
 simp only [g_sight_view_lineAt] at h
 simp only [vz, tyf, nm, seval]
 refine opd_ret (x := (.lit (.int .i64 (IntKind.i64.wrap ((IntKind.i64.wrap (x0_v.board.At * x0_v.SightPlace.Across)) + (IntKind.i64.wrap ((IntKind.i64.wrap (x0_v.SightPlace.Along - x0_v.board.At)) * x1_across))))))) (by first | (simp only [Tryz.results108, resV, resL, resV1, tgt_ptr, tgt_tp, uw, cr, tyf, nm, seval] <;> rfl) | rfl) ?_
 obtain rfl := kF _ h
 refine rr_tree ?_ ?_
 ·simp only [tre, tytre, Bool.and_self]
 ·first | (simp only [outV, uw, showV_ref, cr, tyf, nrm, tynrm, nm, seval] <;> rfl) | rfl
end Go.V
end
section
namespace Go.V
open Go Go.Proofs
def g_sight_view_isBehind (x0_v : Gsightview) (x1_block : GSightBlock) : Option (Bool) := cond (decide (x1_block.Across.Low > x0_v.SightPlace.Across)) (some false) (Option.bind (g_sight_view_lineAt x0_v x1_block.Across.Low) (fun r1 => Option.bind (g_sight_view_lineAt x0_v (if x0_v.SightPlace.Across < x1_block.Across.High then x0_v.SightPlace.Across else x1_block.Across.High)) (fun r2 => cond (decide ((if r2 < r1 then r2 else r1) ≤ (IntKind.i64.wrap (x1_block.Along.High * x0_v.SightPlace.Across)))) (some (decide ((if r1 < r2 then r2 else r1) ≥ (IntKind.i64.wrap (x1_block.Along.Low * x0_v.SightPlace.Across))))) (some false))))
theorem g_sight_view_isBehind_ok (x0_v : Gsightview) (x1_block : GSightBlock) (R : Bool) (h : g_sight_view_isBehind x0_v x1_block = some R) : VPure Tryz.prog G0 73 [.agg (cGsightview x0_v), .agg (cGSightBlock x1_block)] (.tree (.lit (.bool R))) := by
 refine VPure.runR mixed Tryz.call73 Tryz.func73 rfl (by simp [Tryz.ntmps73]; kernel_rfl) ?_
 obtain ⟨KF, h, kF, kN⟩ := fun_intro h
 simp only [g_sight_view_isBehind] at h
 cases d3 : (decide (x1_block.Across.Low > x0_v.SightPlace.Across))
 ·simp only [d3, hs, reduceCtorEq] at h
  simp only [vz, tyf, d3, nm, seval]
  refine cwp_drwQF (fun tm => tm 2 = .ptr 0 0 ∧ tm 3 = .ptr 1 0 ∧ True) (by refine ⟨?_, ?_, trivial⟩ <;> first | (simp only [ua, d3, nm, seval] <;> rfl) | rfl) ?_
  rintro tm ⟨e4, e5, _⟩
  cases o7 : (g_sight_view_lineAt x0_v x1_block.Across.Low) with
  | none =>
   simp only [o7, hs, reduceCtorEq] at h
   exact absurd h kN
  | some r6 =>
   simp only [o7, hs, reduceCtorEq] at h
   simp only [vz, tyf, d3, e4, e5, nm, seval]
   refine dktree (args0 := [.agg (cGsightview x0_v), .lit (.int .i64 x1_block.Across.Low)]) (by first | (simp only [nrm, tynrm] <;> rfl) | rfl) (by simp only [tre, tytre, Bool.and_self]) (g_sight_view_lineAt_ok _ _ _ o7) ?_
   refine fin_cut (fun tm => tm 2 = .ptr 0 0 ∧ tm 3 = .ptr 1 0 ∧ tm 18 = .lit (.int .i64 r6) ∧ True) (by refine ⟨e4, e5, ?_, trivial⟩ <;> first | (simp only [ua, d3, e4, e5, nm, seval] <;> rfl) | rfl) ?_
   rintro tm ⟨e8, e9, e10, _⟩
   cases o12 : (g_sight_view_lineAt x0_v (if x0_v.SightPlace.Across < x1_block.Across.High then x0_v.SightPlace.Across else x1_block.Across.High)) with
   | none =>
    simp only [o12, hs, reduceCtorEq] at h
    exact absurd h kN
   | some r11 =>
    simp only [o12, hs, reduceCtorEq] at h
    simp only [vz, tyf, d3, e8, e9, e10, nm, seval]
    refine dktree (args0 := [.agg (cGsightview x0_v), .lit (.int .i64 (if x0_v.SightPlace.Across < x1_block.Across.High then x0_v.SightPlace.Across else x1_block.Across.High))]) (by first | (simp only [nrm, tynrm] <;> rfl) | rfl) (by simp only [tre, tytre, Bool.and_self]) (g_sight_view_lineAt_ok _ _ _ o12) ?_
    refine fin_cut (fun tm => tm 2 = .ptr 0 0 ∧ tm 3 = .ptr 1 0 ∧ tm 18 = .lit (.int .i64 r6) ∧ tm 27 = .lit (.int .i64 r11) ∧ True) (by refine ⟨e8, e9, e10, ?_, trivial⟩ <;> first | (simp only [ua, d3, e8, e9, e10, nm, seval] <;> rfl) | rfl) ?_
    rintro tm ⟨e13, e14, e15, e16, _⟩
    cases d17 : (decide ((if r11 < r6 then r11 else r6) ≤ (IntKind.i64.wrap (x1_block.Along.High * x0_v.SightPlace.Across))))
    ·simp only [d17, hs, reduceCtorEq] at h
     simp only [vz, tyf, d3, e13, e14, e15, e16, d17, nm, seval]
     obtain rfl := kF _ h
     exact opd_bool Tryz.results73 (by first | rfl | (simp only [upd_apply, seval] <;> rfl))
    simp only [d17, hs, reduceCtorEq] at h
    simp only [vz, tyf, d3, e13, e14, e15, e16, d17, nm, seval]
    obtain rfl := kF _ h
    exact opd_bool Tryz.results73 (by first | rfl | (simp only [upd_apply, seval] <;> rfl))
 simp only [d3, hs, reduceCtorEq] at h
 simp only [vz, tyf, d3, nm, seval]
 obtain rfl := kF _ h
 exact opd_bool Tryz.results73 (by first | rfl | (simp only [upd_apply, seval] <;> rfl))
end Go.V
end
section
namespace Go.V
open Go Go.Proofs
end Go.V
end
section
namespace Go.V
open Go Go.Proofs
end Go.V
end
section
namespace Go.V
open Go Go.Proofs
end Go.V
end
section
namespace Go.V
open Go Go.Proofs
end Go.V
end
section
namespace Go.V
open Go Go.Proofs
end Go.V
end
section
namespace Go.V
open Go
def farI (a : Int) (p : GSightPlace) : Int := (p.Along - a) * (p.Along - a) + p.Across * p.Across
def PG (a : Int) (p : GSightPlace) : Prop := 0 ≤ a ∧ a ≤ 40 ∧ 0 ≤ p.Along ∧ p.Along ≤ 40 ∧ 1 ≤ p.Across ∧ p.Across ≤ 12
def BL (l : GSightLetter) : Prop := 0 ≤ l.Height ∧ l.Height ≤ 300 ∧ 0 ≤ l.Width ∧ l.Width ≤ 300 ∧ 0 ≤ l.Stroke ∧ l.Stroke ≤ 100 ∧ 0 ≤ l.Space ∧ l.Space ≤ 200
def BK (k : GSightBlock) : Prop := 0 ≤ k.Along.Low ∧ k.Along.Low ≤ k.Along.High ∧ k.Along.High ≤ 40 ∧ 1 ≤ k.Across.Low ∧ k.Across.Low ≤ k.Across.High ∧ k.Across.High ≤ 12
def PW (w : Int) : Prop := 0 ≤ w ∧ w ≤ 4000
theorem far_range {a : Int} {p : GSightPlace} (h : PG a p) : 1 ≤ farI a p ∧ farI a p ≤ 1744 := by
 obtain ⟨h1, h2, h3, h4, h5, h6⟩ := h
 have q1 := sqR (a := p.Along - a) (A := 40) (by omega) (by omega)
 have q2 := mulR (a := p.Across) (A := 12) (b := p.Across) (B := 12) (by omega) (by omega) (by omega) (by omega)
 have q3 : 1 * 1 ≤ p.Across * p.Across := Int.mul_le_mul (by omega) (by omega) (by omega) (by omega)
 unfold farI
 omega
theorem squares1 (x : Int) : g_sight_squares [x] = some (IntKind.i64.wrap (0 + IntKind.i64.wrap (x * x))) := rfl
theorem squares2 (x y : Int) : g_sight_squares [x, y] = some (IntKind.i64.wrap (IntKind.i64.wrap (0 + IntKind.i64.wrap (x * x)) + IntKind.i64.wrap (y * y))) := rfl
theorem far_eq (v : Gsightview) (h : PG v.board.At v.SightPlace) : g_sight_view_far v = some (farI v.board.At v.SightPlace) := by
 have hr := far_range h
 obtain ⟨h1, h2, h3, h4, h5, h6⟩ := h
 have q1 := sqR (a := v.SightPlace.Along - v.board.At) (A := 40) (by omega) (by omega)
 have q2 := mulR (a := v.SightPlace.Across) (A := 12) (b := v.SightPlace.Across) (B := 12) (by omega) (by omega) (by omega) (by omega)
 unfold farI at hr ⊢
 simp only [g_sight_view_far, squares2, Option.bind_some]
 rw [wrap_eq (n := v.SightPlace.Along - v.board.At) (by omega) (by omega), wrap_eq (n := (v.SightPlace.Along - v.board.At) * (v.SightPlace.Along - v.board.At)) (by omega) (by omega), Int.zero_add,
  wrap_eq (n := (v.SightPlace.Along - v.board.At) * (v.SightPlace.Along - v.board.At)) (by omega) (by omega), wrap_eq (n := v.SightPlace.Across * v.SightPlace.Across) (by omega) (by omega), wrap_eq (by omega) (by omega)]
def reachB (w a : Int) (p : GSightPlace) (h : Int) : Bool := decide (10000 * farI a p ≤ (h * w) * (h * w))
def spreadB (w a : Int) (p : GSightPlace) (h : Int) : Bool := decide (100 * farI a p ≤ h * w * p.Across)
theorem reaches_eq (v : Gsightview) (h : Int) (hp : PG v.board.At v.SightPlace) (hw : PW v.power) (h0 : 0 ≤ h) (h1 : h ≤ 1000) : g_sight_view_reaches v h = some (reachB v.power v.board.At v.SightPlace h) := by
 have hr := far_range hp
 have q1 := mulR h0 h1 hw.1 hw.2
 have q2 := sqR (a := h * v.power) (A := 4000000) (by omega) (by omega)
 have e1 : IntKind.i64.wrap (h * v.power) = h * v.power := wrap_eq (by omega) (by omega)
 have e2 : IntKind.i64.wrap ((h * v.power) * (h * v.power)) = (h * v.power) * (h * v.power) := wrap_eq (by omega) (by omega)
 have e3 : g_sight_squares [100] = some 10000 := rfl
 have e4 : IntKind.i64.wrap (10000 * farI v.board.At v.SightPlace) = 10000 * farI v.board.At v.SightPlace := wrap_eq (by omega) (by omega)
 simp only [g_sight_view_reaches, squares1, Option.bind_some, far_eq v hp, e1, e2, e3, e4, Int.zero_add, reachB]
theorem spreads_eq (v : Gsightview) (h : Int) (hp : PG v.board.At v.SightPlace) (hw : PW v.power) (h0 : 0 ≤ h) (h1 : h ≤ 1000) : g_sight_view_spreads v h = some (spreadB v.power v.board.At v.SightPlace h) := by
 have hr := far_range hp
 have q1 := mulR h0 h1 hw.1 hw.2
 have q2 := mulR (a := h * v.power) (A := 4000000) (b := v.SightPlace.Across) (B := 12) (by omega) (by omega) (by unfold PG at hp; omega) (by unfold PG at hp; omega)
 have e1 : IntKind.i64.wrap (h * v.power) = h * v.power := wrap_eq (by omega) (by omega)
 have e2 : IntKind.i64.wrap (h * v.power * v.SightPlace.Across) = h * v.power * v.SightPlace.Across := wrap_eq (by omega) (by omega)
 have e4 : IntKind.i64.wrap (100 * farI v.board.At v.SightPlace) = 100 * farI v.board.At v.SightPlace := wrap_eq (by omega) (by omega)
 simp only [g_sight_view_spreads, Option.bind_some, far_eq v hp, e1, e2, e4, spreadB]
def tallB (w a : Int) (p : GSightPlace) (l : GSightLetter) : Bool := reachB w a p l.Height
def broadB (w a : Int) (p : GSightPlace) (l : GSightLetter) : Bool := spreadB w a p l.Width
def thickB (w a : Int) (p : GSightPlace) (l : GSightLetter) : Bool := reachB w a p (5 * l.Stroke)
def apartB (w a : Int) (p : GSightPlace) (l : GSightLetter) : Bool := spreadB w a p (5 * l.Space)
theorem isTall_eq (v : Gsightview) (i : Int) (l : GSightLetter) (hp : PG v.board.At v.SightPlace) (hw : PW v.power) (hl : BL l) (hi : getI v.board.Letters i = some l) : g_sight_view_isTall v i = some (tallB v.power v.board.At v.SightPlace l) := by
 unfold BL at hl
 simp only [g_sight_view_isTall, hi, Option.bind_some, reaches_eq v l.Height hp hw (by omega) (by omega), tallB]
theorem isBroad_eq (v : Gsightview) (i : Int) (l : GSightLetter) (hp : PG v.board.At v.SightPlace) (hw : PW v.power) (hl : BL l) (hi : getI v.board.Letters i = some l) : g_sight_view_isBroad v i = some (broadB v.power v.board.At v.SightPlace l) := by
 unfold BL at hl
 simp only [g_sight_view_isBroad, hi, Option.bind_some, spreads_eq v l.Width hp hw (by omega) (by omega), broadB]
theorem isThick_eq (v : Gsightview) (i : Int) (l : GSightLetter) (hp : PG v.board.At v.SightPlace) (hw : PW v.power) (hl : BL l) (hi : getI v.board.Letters i = some l) : g_sight_view_isThick v i = some (thickB v.power v.board.At v.SightPlace l) := by
 unfold BL at hl
 have e : IntKind.i64.wrap (5 * l.Stroke) = 5 * l.Stroke := wrap_eq (by omega) (by omega)
 simp only [g_sight_view_isThick, hi, Option.bind_some, e, reaches_eq v (5 * l.Stroke) hp hw (by omega) (by omega), thickB]
theorem isApart_eq (v : Gsightview) (i : Int) (l : GSightLetter) (hp : PG v.board.At v.SightPlace) (hw : PW v.power) (hl : BL l) (hi : getI v.board.Letters i = some l) : g_sight_view_isApart v i = some (apartB v.power v.board.At v.SightPlace l) := by
 unfold BL at hl
 have e : IntKind.i64.wrap (5 * l.Space) = 5 * l.Space := wrap_eq (by omega) (by omega)
 simp only [g_sight_view_isApart, hi, Option.bind_some, e, spreads_eq v (5 * l.Space) hp hw (by omega) (by omega), apartB]
def legB (w a : Int) (p : GSightPlace) (l : GSightLetter) : Bool := tallB w a p l && (broadB w a p l && thickB w a p l)
theorem isLegible_eq (v : Gsightview) (i : Int) (l : GSightLetter) (hp : PG v.board.At v.SightPlace) (hw : PW v.power) (hl : BL l) (hi : getI v.board.Letters i = some l) : g_sight_view_isLegible v i = some (legB v.power v.board.At v.SightPlace l) := by
 simp only [g_sight_view_isLegible, isTall_eq v i l hp hw hl hi, isBroad_eq v i l hp hw hl hi, isThick_eq v i l hp hw hl hi, Option.bind_some, legB]
 cases tallB v.power v.board.At v.SightPlace l <;> cases broadB v.power v.board.At v.SightPlace l <;> cases thickB v.power v.board.At v.SightPlace l <;> rfl
def lineI (a : Int) (p : GSightPlace) (c : Int) : Int := a * p.Across + (p.Along - a) * c
theorem line_range {a : Int} {p : GSightPlace} {c : Int} (hp : PG a p) (h0 : 0 ≤ c) (h1 : c ≤ 12) : (0 ≤ a * p.Across ∧ a * p.Across ≤ 480) ∧ (-480 ≤ (p.Along - a) * c ∧ (p.Along - a) * c ≤ 480) := by
 unfold PG at hp
 have q1 := mulR (a := a) (A := 40) (b := p.Across) (B := 12) (by omega) (by omega) (by omega) (by omega)
 have q2 := mulS (a := p.Along - a) (A := 40) (b := c) (B := 12) (by omega) (by omega) (by omega) (by omega)
 omega
theorem lineAt_eq (v : Gsightview) (c : Int) (hp : PG v.board.At v.SightPlace) (h0 : 0 ≤ c) (h1 : c ≤ 12) : g_sight_view_lineAt v c = some (lineI v.board.At v.SightPlace c) := by
 have := line_range hp h0 h1
 unfold PG at hp
 simp only [g_sight_view_lineAt, lineI]
 rw [wrap_eq (n := v.board.At * v.SightPlace.Across) (by omega) (by omega), wrap_eq (n := v.SightPlace.Along - v.board.At) (by omega) (by omega), wrap_eq (n := (v.SightPlace.Along - v.board.At) * c) (by omega) (by omega), wrap_eq (by omega) (by omega)]
def lastC (p : GSightPlace) (k : GSightBlock) : Int := if p.Across < k.Across.High then p.Across else k.Across.High
def behB (a : Int) (p : GSightPlace) (k : GSightBlock) : Bool :=
 !decide (k.Across.Low > p.Across) && (decide ((if lineI a p (lastC p k) < lineI a p k.Across.Low then lineI a p (lastC p k) else lineI a p k.Across.Low) ≤ k.Along.High * p.Across) &&
  decide ((if lineI a p k.Across.Low < lineI a p (lastC p k) then lineI a p (lastC p k) else lineI a p k.Across.Low) ≥ k.Along.Low * p.Across))
theorem isBehind_eq (v : Gsightview) (k : GSightBlock) (hp : PG v.board.At v.SightPlace) (hk : BK k) : g_sight_view_isBehind v k = some (behB v.board.At v.SightPlace k) := by
 have hp' := hp
 unfold PG at hp
 unfold BK at hk
 have h2 : 0 ≤ lastC v.SightPlace k ∧ lastC v.SightPlace k ≤ 12 := by unfold lastC; split <;> omega
 have q1 := mulR (a := k.Along.High) (A := 40) (b := v.SightPlace.Across) (B := 12) (by omega) (by omega) (by omega) (by omega)
 have q2 := mulR (a := k.Along.Low) (A := 40) (b := v.SightPlace.Across) (B := 12) (by omega) (by omega) (by omega) (by omega)
 have e1 : IntKind.i64.wrap (k.Along.High * v.SightPlace.Across) = k.Along.High * v.SightPlace.Across := wrap_eq (by omega) (by omega)
 have e2 : IntKind.i64.wrap (k.Along.Low * v.SightPlace.Across) = k.Along.Low * v.SightPlace.Across := wrap_eq (by omega) (by omega)
 have e3 : (if v.SightPlace.Across < k.Across.High then v.SightPlace.Across else k.Across.High) = lastC v.SightPlace k := rfl
 simp only [g_sight_view_isBehind, e3, lineAt_eq v k.Across.Low hp' (by omega) (by omega), lineAt_eq v _ hp' h2.1 h2.2, Option.bind_some, e1, e2, csome, behB]
 cases decide (k.Across.Low > v.SightPlace.Across) <;> rfl
end Go.V
end
section
namespace Go.V
open Go Go.Proofs
def g_sight_must (x0_is : Bool) (x1_kind : Int) (x2_number : Int) : Option ((Unit) ⊕ (Gsightfault)) := cond (x0_is) (some (.inl ())) (some (.inr (Gsightfault.mk (GSightFault.mk x1_kind x2_number))))
theorem g_sight_must_ok (x0_is : Bool) (x1_kind : Int) (x2_number : Int) (R : (Unit) ⊕ (Gsightfault)) (h : g_sight_must x0_is x1_kind x2_number = some R) : VPure Tryz.prog G0 105 [.lit (.bool x0_is), .lit (.int .i64 x1_kind), .lit (.int .i64 x2_number)] (presB R (fun r => .tree (.tup [])) (fun e => .panic (.ifc 140 (.agg (cGsightfault e))))) := by
 refine VPure.runR mixed Tryz.call105 Tryz.func105 rfl (by simp [Tryz.ntmps105]; kernel_rfl) ?_
 obtain ⟨KF, h, kF, kN⟩ := fun_intro h
 simp only [g_sight_must] at h
 cases d1 : (x0_is)
 ·simp only [d1, hs, reduceCtorEq] at h
  simp only [vz, tyf, d1, nm, seval]
  refine opd_panic ?_
  obtain rfl := kF _ h
  refine rp_pan ?_ ?_
  ·simp only [tre, tytre, tree_ifc, Bool.and_self]
  ·first | (simp only [outV, uw, showV_ref, showV_ifc, normV_ifc, cr, tyf, nrm, tynrm, d1, nm, seval] <;> rfl) | rfl
 simp only [d1, hs, reduceCtorEq] at h
 simp only [vz, tyf, d1, nm, seval]
 refine opd_normal (x := (.tup [])) (by first | (simp only [Tryz.results105, resV, resL, resV1, tgt_ptr, tgt_tp, uw, cr, tyf, d1, nm, seval] <;> rfl) | rfl) ?_
 obtain rfl := kF _ h
 refine rr_tree ?_ ?_
 ·simp only [tre, tytre, Bool.and_self]
 ·first | (simp only [outV, uw, showV_ref, cr, tyf, nrm, tynrm, d1, nm, seval] <;> rfl) | rfl
end Go.V
end
