/- Part of a proof: a logic of values by content, lifted functions, what follows. -/
import Derived.Test.YtdhkepdioiicfaaGreatDoorBbc
import Derived.Test.YtdhkepdioiicfaaGreatDoorBbf
import Derived.Test.YtdhkepdioiicfaaGreatDoorBbg
set_option linter.all false
set_option maxRecDepth 4000
set_option maxHeartbeats 4000000
section
namespace Go.V
open Go Go.Proofs
def g_ref02_Fault (x0_l : GSightLetter) (x1_at : Int) (x2_p : GSightPlace) (x3_power : Int) : Option (Int) := Option.bind (g_ref02_Far x1_at x2_p) (fun r1 => cond (decide ((IntKind.i64.wrap ((IntKind.i64.wrap ((IntKind.i64.wrap (x0_l.Height * x3_power)) * x0_l.Height)) * x3_power)) < (IntKind.i64.wrap (10000 * r1)))) (some 2) (cond (decide ((IntKind.i64.wrap ((IntKind.i64.wrap (x0_l.Width * x3_power)) * x2_p.Across)) < (IntKind.i64.wrap (100 * r1)))) (some 3) (cond (decide ((IntKind.i64.wrap ((IntKind.i64.wrap ((IntKind.i64.wrap ((IntKind.i64.wrap ((IntKind.i64.wrap (5 * x0_l.Stroke)) * x3_power)) * 5)) * x0_l.Stroke)) * x3_power)) < (IntKind.i64.wrap (10000 * r1)))) (some 4) (some 0))))
theorem g_ref02_Fault_ok (x0_l : GSightLetter) (x1_at : Int) (x2_p : GSightPlace) (x3_power : Int) (R : Int) (h : g_ref02_Fault x0_l x1_at x2_p x3_power = some R) : VPure Tryz.prog G0 128 [.agg (cGSightLetter x0_l), .lit (.int .i64 x1_at), .agg (cGSightPlace x2_p), .lit (.int .i64 x3_power)] (.tree (.lit (.int .i64 R))) := by
 refine VPure.runR mixed Tryz.call128 Tryz.func128 rfl (by simp [Tryz.ntmps128]; kernel_rfl) ?_
 obtain ⟨KF, h, kF, kN⟩ := fun_intro h
 simp only [g_ref02_Fault] at h
 rcases o3 : (g_ref02_Far x1_at x2_p) with _ | r2
 ·simp only [o3, hs] at h
  exact absurd h kN
 simp only [o3, hs] at h
 simp only [vz, tyf, nm, seval]
 refine ktree (args0 := [.lit (.int .i64 x1_at), .agg (cGSightPlace x2_p)]) (by first | (simp only [nrm, tynrm] <;> rfl) | rfl) (by simp only [tre, tytre, Bool.and_self]) (g_ref02_Far_ok _ _ _ o3) ?_
 refine fin_cut (fun tm => tm 3 = .lit (.int .i64 x3_power) ∧ tm 4 = .ptr 0 0 ∧ tm 6 = .ptr 1 0 ∧ tm 12 = .lit (.int .i64 r2) ∧ True) (by refine ⟨?_, ?_, ?_, ?_, trivial⟩ <;> first | (simp only [ua, nm, seval] <;> rfl) | rfl) ?_
 rintro tm ⟨e4, e5, e6, e7, _⟩
 cases d8 : (decide ((IntKind.i64.wrap ((IntKind.i64.wrap ((IntKind.i64.wrap (x0_l.Height * x3_power)) * x0_l.Height)) * x3_power)) < (IntKind.i64.wrap (10000 * r2))))
 ·simp only [d8, hs] at h
  cases d9 : (decide ((IntKind.i64.wrap ((IntKind.i64.wrap (x0_l.Width * x3_power)) * x2_p.Across)) < (IntKind.i64.wrap (100 * r2))))
  ·simp only [d9, hs] at h
   cases d10 : (decide ((IntKind.i64.wrap ((IntKind.i64.wrap ((IntKind.i64.wrap ((IntKind.i64.wrap ((IntKind.i64.wrap (5 * x0_l.Stroke)) * x3_power)) * 5)) * x0_l.Stroke)) * x3_power)) < (IntKind.i64.wrap (10000 * r2))))
   ·simp only [d10, hs] at h
    try simp only [vz, tyf, e4, e5, e6, e7, d8, d9, d10, nm, seval]
    refine opd_ret (x := (.lit (.int .i64 0))) (by first | (simp only [Tryz.results128, resV, resL, resV1, tgt_ptr, tgt_tp, uw, cr, tyf, d8, d9, d10, nm, seval] <;> rfl) | rfl) ?_
    obtain rfl := kF _ h
    refine rr_tree ?_ ?_
    ·simp only [tre, tytre, Bool.and_self]
    ·first | (simp only [outV, uw, showV_ref, cr, tyf, nrm, tynrm, e4, e5, e6, e7, d8, d9, d10, nm, seval] <;> rfl) | rfl
   simp only [d10, hs] at h
   try simp only [vz, tyf, e4, e5, e6, e7, d8, d9, d10, nm, seval]
   refine opd_ret (x := (.lit (.int .i64 4))) (by first | (simp only [Tryz.results128, resV, resL, resV1, tgt_ptr, tgt_tp, uw, cr, tyf, d8, d9, d10, nm, seval] <;> rfl) | rfl) ?_
   obtain rfl := kF _ h
   refine rr_tree ?_ ?_
   ·simp only [tre, tytre, Bool.and_self]
   ·first | (simp only [outV, uw, showV_ref, cr, tyf, nrm, tynrm, e4, e5, e6, e7, d8, d9, d10, nm, seval] <;> rfl) | rfl
  simp only [d9, hs] at h
  try simp only [vz, tyf, e4, e5, e6, e7, d8, d9, nm, seval]
  refine opd_ret (x := (.lit (.int .i64 3))) (by first | (simp only [Tryz.results128, resV, resL, resV1, tgt_ptr, tgt_tp, uw, cr, tyf, d8, d9, nm, seval] <;> rfl) | rfl) ?_
  obtain rfl := kF _ h
  refine rr_tree ?_ ?_
  ·simp only [tre, tytre, Bool.and_self]
  ·first | (simp only [outV, uw, showV_ref, cr, tyf, nrm, tynrm, e4, e5, e6, e7, d8, d9, nm, seval] <;> rfl) | rfl
 simp only [d8, hs] at h
 try simp only [vz, tyf, e4, e5, e6, e7, d8, nm, seval]
 refine opd_ret (x := (.lit (.int .i64 2))) (by first | (simp only [Tryz.results128, resV, resL, resV1, tgt_ptr, tgt_tp, uw, cr, tyf, d8, nm, seval] <;> rfl) | rfl) ?_
 obtain rfl := kF _ h
 refine rr_tree ?_ ?_
 ·simp only [tre, tytre, Bool.and_self]
 ·first | (simp only [outV, uw, showV_ref, cr, tyf, nrm, tynrm, e4, e5, e6, e7, d8, nm, seval] <;> rfl) | rfl
end Go.V
end
section
namespace Go.V
open Go Go.Proofs
def g_ref02_Melts (x0_l : GSightLetter) (x1_at : Int) (x2_p : GSightPlace) (x3_power : Int) : Option (Bool) := Option.bind (g_ref02_Far x1_at x2_p) (fun r1 => some (decide ((IntKind.i64.wrap ((IntKind.i64.wrap ((IntKind.i64.wrap (5 * x0_l.Space)) * x3_power)) * x2_p.Across)) < (IntKind.i64.wrap (100 * r1)))))
theorem g_ref02_Melts_ok (x0_l : GSightLetter) (x1_at : Int) (x2_p : GSightPlace) (x3_power : Int) (R : Bool) (h : g_ref02_Melts x0_l x1_at x2_p x3_power = some R) : VPure Tryz.prog G0 129 [.agg (cGSightLetter x0_l), .lit (.int .i64 x1_at), .agg (cGSightPlace x2_p), .lit (.int .i64 x3_power)] (.tree (.lit (.bool R))) := by
 refine VPure.runR mixed Tryz.call129 Tryz.func129 rfl (by simp [Tryz.ntmps129]; kernel_rfl) ?_
 obtain ⟨KF, h, kF, kN⟩ := fun_intro h
 simp only [g_ref02_Melts] at h
 simp only [vz, tyf, nm, seval]
 refine cwp_drwQF (fun tm => tm 1 = .lit (.int .i64 x1_at) ∧ tm 3 = .lit (.int .i64 x3_power) ∧ tm 4 = .ptr 0 0 ∧ tm 6 = .ptr 1 0 ∧ True) (by refine ⟨?_, ?_, ?_, ?_, trivial⟩ <;> first | (simp only [ua, nm, seval] <;> rfl) | rfl) ?_
 rintro tm ⟨e2, e3, e4, e5, _⟩
 rcases o7 : (g_ref02_Far x1_at x2_p) with _ | r6
 ·simp only [o7, hs] at h
  exact absurd h kN
 simp only [o7, hs] at h
 simp only [vz, tyf, e2, e3, e4, e5, nm, seval]
 refine dktree (args0 := [.lit (.int .i64 x1_at), .agg (cGSightPlace x2_p)]) (by first | (simp only [nrm, tynrm] <;> rfl) | rfl) (by simp only [tre, tytre, Bool.and_self]) (g_ref02_Far_ok _ _ _ o7) ?_
 refine fin_cut (fun tm => tm 16 = .lit (.int .i64 (IntKind.i64.wrap ((IntKind.i64.wrap ((IntKind.i64.wrap (5 * x0_l.Space)) * x3_power)) * x2_p.Across))) ∧ tm 19 = .lit (.int .i64 r6) ∧ True) (by refine ⟨?_, ?_, trivial⟩ <;> first | (simp only [ua, e2, e3, e4, e5, nm, seval] <;> rfl) | rfl) ?_
 rintro tm ⟨e8, e9, _⟩
 try simp only [vz, tyf, e8, e9, nm, seval]
 obtain rfl := kF _ h
 exact opd_bool Tryz.results129 rfl
end Go.V
end
section
namespace Go.V
open Go Go.Proofs
def g_ref02_Blocks (x0_b : GSightBlock) (x1_a1 : Int) (x2_a2 : GSightPlace) : Option (Bool) := cond (decide (x0_b.Across.Low > (if x2_a2.Across < x0_b.Across.High then x2_a2.Across else x0_b.Across.High))) (some false) (cond (decide ((if (IntKind.i64.wrap ((IntKind.i64.wrap (x1_a1 * x2_a2.Across)) + (IntKind.i64.wrap ((IntKind.i64.wrap (x2_a2.Along - x1_a1)) * (if x2_a2.Across < x0_b.Across.High then x2_a2.Across else x0_b.Across.High))))) < (IntKind.i64.wrap ((IntKind.i64.wrap (x1_a1 * x2_a2.Across)) + (IntKind.i64.wrap ((IntKind.i64.wrap (x2_a2.Along - x1_a1)) * x0_b.Across.Low)))) then (IntKind.i64.wrap ((IntKind.i64.wrap (x1_a1 * x2_a2.Across)) + (IntKind.i64.wrap ((IntKind.i64.wrap (x2_a2.Along - x1_a1)) * (if x2_a2.Across < x0_b.Across.High then x2_a2.Across else x0_b.Across.High))))) else (IntKind.i64.wrap ((IntKind.i64.wrap (x1_a1 * x2_a2.Across)) + (IntKind.i64.wrap ((IntKind.i64.wrap (x2_a2.Along - x1_a1)) * x0_b.Across.Low))))) ≤ (IntKind.i64.wrap (x0_b.Along.High * x2_a2.Across)))) (some (decide ((if (IntKind.i64.wrap ((IntKind.i64.wrap (x1_a1 * x2_a2.Across)) + (IntKind.i64.wrap ((IntKind.i64.wrap (x2_a2.Along - x1_a1)) * x0_b.Across.Low)))) < (IntKind.i64.wrap ((IntKind.i64.wrap (x1_a1 * x2_a2.Across)) + (IntKind.i64.wrap ((IntKind.i64.wrap (x2_a2.Along - x1_a1)) * (if x2_a2.Across < x0_b.Across.High then x2_a2.Across else x0_b.Across.High))))) then (IntKind.i64.wrap ((IntKind.i64.wrap (x1_a1 * x2_a2.Across)) + (IntKind.i64.wrap ((IntKind.i64.wrap (x2_a2.Along - x1_a1)) * (if x2_a2.Across < x0_b.Across.High then x2_a2.Across else x0_b.Across.High))))) else (IntKind.i64.wrap ((IntKind.i64.wrap (x1_a1 * x2_a2.Across)) + (IntKind.i64.wrap ((IntKind.i64.wrap (x2_a2.Along - x1_a1)) * x0_b.Across.Low))))) ≥ (IntKind.i64.wrap (x0_b.Along.Low * x2_a2.Across))))) (some false))
theorem g_ref02_Blocks_ok (x0_b : GSightBlock) (x1_a1 : Int) (x2_a2 : GSightPlace) (R : Bool) (h : g_ref02_Blocks x0_b x1_a1 x2_a2 = some R) : VPure Tryz.prog G0 130 [.agg (cGSightBlock x0_b), .lit (.int .i64 x1_a1), .agg (cGSightPlace x2_a2)] (.tree (.lit (.bool R))) := by
 refine VPure.runR mixed Tryz.call130 Tryz.func130 rfl (by simp [Tryz.ntmps130]; kernel_rfl) ?_
 obtain ⟨KF, h, kF, kN⟩ := fun_intro h
 simp only [g_ref02_Blocks] at h
 simp only [vz, tyf, nm, seval]
 refine cwp_drwQF (fun tm => tm 1 = .lit (.int .i64 x1_a1) ∧ tm 3 = .ptr 0 0 ∧ tm 5 = .ptr 1 0 ∧ True) (by refine ⟨?_, ?_, ?_, trivial⟩ <;> first | (simp only [ua, nm, seval] <;> rfl) | rfl) ?_
 rintro tm ⟨e1, e2, e3, _⟩
 cases d4 : (decide (x0_b.Across.Low > (if x2_a2.Across < x0_b.Across.High then x2_a2.Across else x0_b.Across.High)))
 ·simp only [d4, hs] at h
  simp only [vz, tyf, e1, e2, e3, d4, nm, seval]
  refine cwp_drwQF (fun tm => tm 1 = .lit (.int .i64 x1_a1) ∧ tm 3 = .ptr 0 0 ∧ tm 5 = .ptr 1 0 ∧ tm 7 = .lit (.int .i64 x0_b.Across.Low) ∧ tm 8 = .lit (.int .i64 (if x2_a2.Across < x0_b.Across.High then x2_a2.Across else x0_b.Across.High)) ∧ True) (by refine ⟨e1, e2, e3, ?_, ?_, trivial⟩ <;> first | (simp only [ua, e1, e2, e3, d4, nm, seval] <;> rfl) | rfl) ?_
  rintro tm ⟨e5, e6, e7, e8, e9, _⟩
  cases d10 : (decide ((if (IntKind.i64.wrap ((IntKind.i64.wrap (x1_a1 * x2_a2.Across)) + (IntKind.i64.wrap ((IntKind.i64.wrap (x2_a2.Along - x1_a1)) * (if x2_a2.Across < x0_b.Across.High then x2_a2.Across else x0_b.Across.High))))) < (IntKind.i64.wrap ((IntKind.i64.wrap (x1_a1 * x2_a2.Across)) + (IntKind.i64.wrap ((IntKind.i64.wrap (x2_a2.Along - x1_a1)) * x0_b.Across.Low)))) then (IntKind.i64.wrap ((IntKind.i64.wrap (x1_a1 * x2_a2.Across)) + (IntKind.i64.wrap ((IntKind.i64.wrap (x2_a2.Along - x1_a1)) * (if x2_a2.Across < x0_b.Across.High then x2_a2.Across else x0_b.Across.High))))) else (IntKind.i64.wrap ((IntKind.i64.wrap (x1_a1 * x2_a2.Across)) + (IntKind.i64.wrap ((IntKind.i64.wrap (x2_a2.Along - x1_a1)) * x0_b.Across.Low))))) ≤ (IntKind.i64.wrap (x0_b.Along.High * x2_a2.Across))))
  ·simp only [d10, hs] at h
   try simp only [vz, tyf, d4, e5, e6, e7, e8, e9, d10, nm, seval]
   obtain rfl := kF _ h
   exact opd_bool Tryz.results130 rfl
  simp only [d10, hs] at h
  try simp only [vz, tyf, d4, e5, e6, e7, e8, e9, d10, nm, seval]
  obtain rfl := kF _ h
  exact opd_bool Tryz.results130 rfl
 simp only [d4, hs] at h
 try simp only [vz, tyf, e1, e2, e3, d4, nm, seval]
 obtain rfl := kF _ h
 exact opd_bool Tryz.results130 rfl
end Go.V
end
section
namespace Go.V
open Go
def farI (a : Int) (p : GSightPlace) : Int := (p.Along - a) * (p.Along - a) + p.Across * p.Across
def PG (a : Int) (p : GSightPlace) : Prop := 0 ≤ a ∧ a ≤ 40 ∧ 0 ≤ p.Along ∧ p.Along ≤ 40 ∧ 1 ≤ p.Across ∧ p.Across ≤ 12
def BL (l : GSightLetter) : Prop := 0 ≤ l.Height ∧ l.Height ≤ 300 ∧ 0 ≤ l.Width ∧ l.Width ≤ 300 ∧ 0 ≤ l.Stroke ∧ l.Stroke ≤ 100 ∧ 0 ≤ l.Space ∧ l.Space ≤ 200
def BK (k : GSightBlock) : Prop := 0 ≤ k.Along.Low ∧ k.Along.Low ≤ k.Along.High ∧ k.Along.High ≤ 40 ∧ 1 ≤ k.Across.Low ∧ k.Across.Low ≤ k.Across.High ∧ k.Across.High ≤ 12
def PW (w : Int) : Prop := 0 ≤ w ∧ w ≤ 4000
theorem far_range {a : Int} {p : GSightPlace} (h : PG a p) : 1 ≤ farI a p ∧ farI a p ≤ 1744 := by
 obtain ⟨h1, h2, h3, h4, h5, h6⟩ := h
 have q1 := sqR (a := p.Along - a) (A := 40) (by omega) (by omega)
 have q2 := mulR (a := p.Across) (A := 12) (b := p.Across) (B := 12) (by omega) (by omega) (by omega) (by omega)
 have q3 : 1 * 1 ≤ p.Across * p.Across := Int.mul_le_mul (by omega) (by omega) (by omega) (by omega)
 unfold farI
 omega
theorem squares1 (x : Int) : g_sight_squares [x] = some (IntKind.i64.wrap (0 + IntKind.i64.wrap (x * x))) := rfl
theorem squares2 (x y : Int) : g_sight_squares [x, y] = some (IntKind.i64.wrap (IntKind.i64.wrap (0 + IntKind.i64.wrap (x * x)) + IntKind.i64.wrap (y * y))) := rfl
theorem far_eq (v : Gsightview) (h : PG v.board.At v.SightPlace) : g_sight_view_far v = some (farI v.board.At v.SightPlace) := by
 have hr := far_range h
 obtain ⟨h1, h2, h3, h4, h5, h6⟩ := h
 have q1 := sqR (a := v.SightPlace.Along - v.board.At) (A := 40) (by omega) (by omega)
 have q2 := mulR (a := v.SightPlace.Across) (A := 12) (b := v.SightPlace.Across) (B := 12) (by omega) (by omega) (by omega) (by omega)
 unfold farI at hr ⊢
 simp only [g_sight_view_far, squares2, Option.bind_some]
 rw [wrap_eq (n := v.SightPlace.Along - v.board.At) (by omega) (by omega), wrap_eq (n := (v.SightPlace.Along - v.board.At) * (v.SightPlace.Along - v.board.At)) (by omega) (by omega), Int.zero_add,
  wrap_eq (n := (v.SightPlace.Along - v.board.At) * (v.SightPlace.Along - v.board.At)) (by omega) (by omega), wrap_eq (n := v.SightPlace.Across * v.SightPlace.Across) (by omega) (by omega), wrap_eq (by omega) (by omega)]
theorem rfar_eq (a : Int) (p : GSightPlace) (h : PG a p) : g_ref02_Far a p = some (farI a p) := by
 have hr := far_range h
 obtain ⟨h1, h2, h3, h4, h5, h6⟩ := h
 have q1 := sqR (a := p.Along - a) (A := 40) (by omega) (by omega)
 have q2 := mulR (a := p.Across) (A := 12) (b := p.Across) (B := 12) (by omega) (by omega) (by omega) (by omega)
 unfold farI at hr ⊢
 simp only [g_ref02_Far]
 rw [wrap_eq (n := p.Along - a) (by omega) (by omega), wrap_eq (n := (p.Along - a) * (p.Along - a)) (by omega) (by omega), wrap_eq (n := p.Across * p.Across) (by omega) (by omega), wrap_eq (by omega) (by omega)]
def reachB (w a : Int) (p : GSightPlace) (h : Int) : Bool := decide (10000 * farI a p ≤ (h * w) * (h * w))
def spreadB (w a : Int) (p : GSightPlace) (h : Int) : Bool := decide (100 * farI a p ≤ h * w * p.Across)
theorem reaches_eq (v : Gsightview) (h : Int) (hp : PG v.board.At v.SightPlace) (hw : PW v.power) (h0 : 0 ≤ h) (h1 : h ≤ 1000) : g_sight_view_reaches v h = some (reachB v.power v.board.At v.SightPlace h) := by
 have hr := far_range hp
 have q1 := mulR h0 h1 hw.1 hw.2
 have q2 := sqR (a := h * v.power) (A := 4000000) (by omega) (by omega)
 have e1 : IntKind.i64.wrap (h * v.power) = h * v.power := wrap_eq (by omega) (by omega)
 have e2 : IntKind.i64.wrap ((h * v.power) * (h * v.power)) = (h * v.power) * (h * v.power) := wrap_eq (by omega) (by omega)
 have e3 : g_sight_squares [100] = some 10000 := rfl
 have e4 : IntKind.i64.wrap (10000 * farI v.board.At v.SightPlace) = 10000 * farI v.board.At v.SightPlace := wrap_eq (by omega) (by omega)
 simp only [g_sight_view_reaches, squares1, Option.bind_some, far_eq v hp, e1, e2, e3, e4, Int.zero_add, reachB]
theorem spreads_eq (v : Gsightview) (h : Int) (hp : PG v.board.At v.SightPlace) (hw : PW v.power) (h0 : 0 ≤ h) (h1 : h ≤ 1000) : g_sight_view_spreads v h = some (spreadB v.power v.board.At v.SightPlace h) := by
 have hr := far_range hp
 have q1 := mulR h0 h1 hw.1 hw.2
 have q2 := mulR (a := h * v.power) (A := 4000000) (b := v.SightPlace.Across) (B := 12) (by omega) (by omega) (by unfold PG at hp; omega) (by unfold PG at hp; omega)
 have e1 : IntKind.i64.wrap (h * v.power) = h * v.power := wrap_eq (by omega) (by omega)
 have e2 : IntKind.i64.wrap (h * v.power * v.SightPlace.Across) = h * v.power * v.SightPlace.Across := wrap_eq (by omega) (by omega)
 have e4 : IntKind.i64.wrap (100 * farI v.board.At v.SightPlace) = 100 * farI v.board.At v.SightPlace := wrap_eq (by omega) (by omega)
 simp only [g_sight_view_spreads, Option.bind_some, far_eq v hp, e1, e2, e4, spreadB]
def tallB (w a : Int) (p : GSightPlace) (l : GSightLetter) : Bool := reachB w a p l.Height
def broadB (w a : Int) (p : GSightPlace) (l : GSightLetter) : Bool := spreadB w a p l.Width
def thickB (w a : Int) (p : GSightPlace) (l : GSightLetter) : Bool := reachB w a p (5 * l.Stroke)
def apartB (w a : Int) (p : GSightPlace) (l : GSightLetter) : Bool := spreadB w a p (5 * l.Space)
theorem isTall_eq (v : Gsightview) (i : Int) (l : GSightLetter) (hp : PG v.board.At v.SightPlace) (hw : PW v.power) (hl : BL l) (hi : getI v.board.Letters i = some l) : g_sight_view_isTall v i = some (tallB v.power v.board.At v.SightPlace l) := by
 unfold BL at hl
 simp only [g_sight_view_isTall, hi, Option.bind_some, reaches_eq v l.Height hp hw (by omega) (by omega), tallB]
theorem isBroad_eq (v : Gsightview) (i : Int) (l : GSightLetter) (hp : PG v.board.At v.SightPlace) (hw : PW v.power) (hl : BL l) (hi : getI v.board.Letters i = some l) : g_sight_view_isBroad v i = some (broadB v.power v.board.At v.SightPlace l) := by
 unfold BL at hl
 simp only [g_sight_view_isBroad, hi, Option.bind_some, spreads_eq v l.Width hp hw (by omega) (by omega), broadB]
theorem isThick_eq (v : Gsightview) (i : Int) (l : GSightLetter) (hp : PG v.board.At v.SightPlace) (hw : PW v.power) (hl : BL l) (hi : getI v.board.Letters i = some l) : g_sight_view_isThick v i = some (thickB v.power v.board.At v.SightPlace l) := by
 unfold BL at hl
 have e : IntKind.i64.wrap (5 * l.Stroke) = 5 * l.Stroke := wrap_eq (by omega) (by omega)
 simp only [g_sight_view_isThick, hi, Option.bind_some, e, reaches_eq v (5 * l.Stroke) hp hw (by omega) (by omega), thickB]
theorem isApart_eq (v : Gsightview) (i : Int) (l : GSightLetter) (hp : PG v.board.At v.SightPlace) (hw : PW v.power) (hl : BL l) (hi : getI v.board.Letters i = some l) : g_sight_view_isApart v i = some (apartB v.power v.board.At v.SightPlace l) := by
 unfold BL at hl
 have e : IntKind.i64.wrap (5 * l.Space) = 5 * l.Space := wrap_eq (by omega) (by omega)
 simp only [g_sight_view_isApart, hi, Option.bind_some, e, spreads_eq v (5 * l.Space) hp hw (by omega) (by omega), apartB]
theorem rspread {w a : Int} {p : GSightPlace} {h : Int} : decide (h * w * p.Across < 100 * farI a p) = !spreadB w a p h := by
 unfold spreadB
 by_cases hh : 100 * farI a p ≤ h * w * p.Across
 ·have : ¬ h * w * p.Across < 100 * farI a p := by omega
  simp [hh, this]
 ·have : h * w * p.Across < 100 * farI a p := by omega
  simp [hh, this]
theorem rreach {w a : Int} {p : GSightPlace} {h : Int} : decide ((h * w) * (h * w) < 10000 * farI a p) = !reachB w a p h := by
 unfold reachB
 by_cases hh : 10000 * farI a p ≤ (h * w) * (h * w)
 ·have : ¬ (h * w) * (h * w) < 10000 * farI a p := by omega
  simp [hh, this]
 ·have : (h * w) * (h * w) < 10000 * farI a p := by omega
  simp [hh, this]
theorem rtests {l : GSightLetter} {a : Int} {p : GSightPlace} {w : Int} (hp : PG a p) (hw : PW w) (hl : BL l) :
  decide (IntKind.i64.wrap (IntKind.i64.wrap (IntKind.i64.wrap (l.Height * w) * l.Height) * w) < IntKind.i64.wrap (10000 * farI a p)) = !tallB w a p l ∧
  decide (IntKind.i64.wrap (IntKind.i64.wrap (l.Width * w) * p.Across) < IntKind.i64.wrap (100 * farI a p)) = !broadB w a p l ∧
  decide (IntKind.i64.wrap (IntKind.i64.wrap (IntKind.i64.wrap (IntKind.i64.wrap (IntKind.i64.wrap (5 * l.Stroke) * w) * 5) * l.Stroke) * w) < IntKind.i64.wrap (10000 * farI a p)) = !thickB w a p l ∧
  decide (IntKind.i64.wrap (IntKind.i64.wrap (IntKind.i64.wrap (5 * l.Space) * w) * p.Across) < IntKind.i64.wrap (100 * farI a p)) = !apartB w a p l := by
 have hr := far_range hp
 unfold PG at hp
 unfold BL at hl
 have e4 : IntKind.i64.wrap (10000 * farI a p) = 10000 * farI a p := wrap_eq (by omega) (by omega)
 have e5 : IntKind.i64.wrap (100 * farI a p) = 100 * farI a p := wrap_eq (by omega) (by omega)
 rw [e4, e5]
 refine ⟨?_, ?_, ?_, ?_⟩
 ·have q1 := mulR (a := l.Height) (A := 300) (by omega) (by omega) hw.1 hw.2
  have q2 := mulR (a := l.Height * w) (A := 1200000) (b := l.Height) (B := 300) (by omega) (by omega) (by omega) (by omega)
  have q3 := mulR (a := l.Height * w * l.Height) (A := 360000000) (by omega) (by omega) hw.1 hw.2
  rw [wrap_eq (n := l.Height * w) (by omega) (by omega), wrap_eq (n := l.Height * w * l.Height) (by omega) (by omega), wrap_eq (n := l.Height * w * l.Height * w) (by omega) (by omega), tallB, ← rreach, Int.mul_assoc (l.Height * w)]
 ·have q1 := mulR (a := l.Width) (A := 300) (by omega) (by omega) hw.1 hw.2
  have q2 := mulR (a := l.Width * w) (A := 1200000) (b := p.Across) (B := 12) (by omega) (by omega) (by omega) (by omega)
  rw [wrap_eq (n := l.Width * w) (by omega) (by omega), wrap_eq (n := l.Width * w * p.Across) (by omega) (by omega), broadB, ← rspread]
 ·have q1 := mulR (a := 5 * l.Stroke) (A := 500) (by omega) (by omega) hw.1 hw.2
  have q2 := mulR (a := 5 * l.Stroke * w * 5) (A := 10000000) (b := l.Stroke) (B := 100) (by omega) (by omega) (by omega) (by omega)
  have q3 := mulR (a := 5 * l.Stroke * w * 5 * l.Stroke) (A := 1000000000) (by omega) (by omega) hw.1 hw.2
  rw [wrap_eq (n := 5 * l.Stroke) (by omega) (by omega), wrap_eq (n := 5 * l.Stroke * w) (by omega) (by omega), wrap_eq (n := 5 * l.Stroke * w * 5) (by omega) (by omega), wrap_eq (n := 5 * l.Stroke * w * 5 * l.Stroke) (by omega) (by omega), wrap_eq (n := 5 * l.Stroke * w * 5 * l.Stroke * w) (by omega) (by omega), thickB, ← rreach]
  rw [Int.mul_assoc (5 * l.Stroke * w) 5 l.Stroke, Int.mul_assoc (5 * l.Stroke * w) (5 * l.Stroke) w]
 ·have q1 := mulR (a := 5 * l.Space) (A := 1000) (by omega) (by omega) hw.1 hw.2
  have q2 := mulR (a := 5 * l.Space * w) (A := 4000000) (b := p.Across) (B := 12) (by omega) (by omega) (by omega) (by omega)
  rw [wrap_eq (n := 5 * l.Space) (by omega) (by omega), wrap_eq (n := 5 * l.Space * w) (by omega) (by omega), wrap_eq (n := 5 * l.Space * w * p.Across) (by omega) (by omega), apartB, ← rspread]
def legB (w a : Int) (p : GSightPlace) (l : GSightLetter) : Bool := tallB w a p l && (broadB w a p l && thickB w a p l)
def faultK (w a : Int) (p : GSightPlace) (l : GSightLetter) : Int := cond (tallB w a p l) (cond (broadB w a p l) (cond (thickB w a p l) 0 4) 3) 2
theorem refFault_eq (l : GSightLetter) (a : Int) (p : GSightPlace) (w : Int) (hp : PG a p) (hw : PW w) (hl : BL l) : g_ref02_Fault l a p w = some (faultK w a p l) := by
 obtain ⟨t1, t2, t3, _⟩ := rtests hp hw hl
 simp only [g_ref02_Fault, rfar_eq a p hp, Option.bind_some, t1, t2, t3, faultK]
 cases tallB w a p l <;> cases broadB w a p l <;> cases thickB w a p l <;> rfl
theorem refMelts_eq (l : GSightLetter) (a : Int) (p : GSightPlace) (w : Int) (hp : PG a p) (hw : PW w) (hl : BL l) : g_ref02_Melts l a p w = some (!apartB w a p l) := by
 obtain ⟨_, _, _, t4⟩ := rtests hp hw hl
 simp only [g_ref02_Melts, rfar_eq a p hp, Option.bind_some, t4]
def lineI (a : Int) (p : GSightPlace) (c : Int) : Int := a * p.Across + (p.Along - a) * c
theorem line_range {a : Int} {p : GSightPlace} {c : Int} (hp : PG a p) (h0 : 0 ≤ c) (h1 : c ≤ 12) : (0 ≤ a * p.Across ∧ a * p.Across ≤ 480) ∧ (-480 ≤ (p.Along - a) * c ∧ (p.Along - a) * c ≤ 480) := by
 unfold PG at hp
 have q1 := mulR (a := a) (A := 40) (b := p.Across) (B := 12) (by omega) (by omega) (by omega) (by omega)
 have q2 := mulS (a := p.Along - a) (A := 40) (b := c) (B := 12) (by omega) (by omega) (by omega) (by omega)
 omega
theorem lineAt_eq (v : Gsightview) (c : Int) (hp : PG v.board.At v.SightPlace) (h0 : 0 ≤ c) (h1 : c ≤ 12) : g_sight_view_lineAt v c = some (lineI v.board.At v.SightPlace c) := by
 have := line_range hp h0 h1
 unfold PG at hp
 simp only [g_sight_view_lineAt, lineI]
 rw [wrap_eq (n := v.board.At * v.SightPlace.Across) (by omega) (by omega), wrap_eq (n := v.SightPlace.Along - v.board.At) (by omega) (by omega), wrap_eq (n := (v.SightPlace.Along - v.board.At) * c) (by omega) (by omega), wrap_eq (by omega) (by omega)]
def lastC (p : GSightPlace) (k : GSightBlock) : Int := if p.Across < k.Across.High then p.Across else k.Across.High
def behB (a : Int) (p : GSightPlace) (k : GSightBlock) : Bool :=
 !decide (k.Across.Low > p.Across) && (decide ((if lineI a p (lastC p k) < lineI a p k.Across.Low then lineI a p (lastC p k) else lineI a p k.Across.Low) ≤ k.Along.High * p.Across) &&
  decide ((if lineI a p k.Across.Low < lineI a p (lastC p k) then lineI a p (lastC p k) else lineI a p k.Across.Low) ≥ k.Along.Low * p.Across))
theorem isBehind_eq (v : Gsightview) (k : GSightBlock) (hp : PG v.board.At v.SightPlace) (hk : BK k) : g_sight_view_isBehind v k = some (behB v.board.At v.SightPlace k) := by
 have hp' := hp
 unfold PG at hp
 unfold BK at hk
 have h2 : 0 ≤ lastC v.SightPlace k ∧ lastC v.SightPlace k ≤ 12 := by unfold lastC; split <;> omega
 have q1 := mulR (a := k.Along.High) (A := 40) (b := v.SightPlace.Across) (B := 12) (by omega) (by omega) (by omega) (by omega)
 have q2 := mulR (a := k.Along.Low) (A := 40) (b := v.SightPlace.Across) (B := 12) (by omega) (by omega) (by omega) (by omega)
 have e1 : IntKind.i64.wrap (k.Along.High * v.SightPlace.Across) = k.Along.High * v.SightPlace.Across := wrap_eq (by omega) (by omega)
 have e2 : IntKind.i64.wrap (k.Along.Low * v.SightPlace.Across) = k.Along.Low * v.SightPlace.Across := wrap_eq (by omega) (by omega)
 have e3 : (if v.SightPlace.Across < k.Across.High then v.SightPlace.Across else k.Across.High) = lastC v.SightPlace k := rfl
 simp only [g_sight_view_isBehind, e3, lineAt_eq v k.Across.Low hp' (by omega) (by omega), lineAt_eq v _ hp' h2.1 h2.2, Option.bind_some, e1, e2, csome, behB]
 cases decide (k.Across.Low > v.SightPlace.Across) <;> rfl
theorem refBlocks_eq (k : GSightBlock) (a : Int) (p : GSightPlace) (hp : PG a p) (hk : BK k) : g_ref02_Blocks k a p = some (behB a p k) := by
 have hp' := hp
 unfold PG at hp
 unfold BK at hk
 have h2 : 0 ≤ lastC p k ∧ lastC p k ≤ 12 := by unfold lastC; split <;> omega
 have q1 := mulR (a := k.Along.High) (A := 40) (b := p.Across) (B := 12) (by omega) (by omega) (by omega) (by omega)
 have q2 := mulR (a := k.Along.Low) (A := 40) (b := p.Across) (B := 12) (by omega) (by omega) (by omega) (by omega)
 have e1 : IntKind.i64.wrap (k.Along.High * p.Across) = k.Along.High * p.Across := wrap_eq (by omega) (by omega)
 have e2 : IntKind.i64.wrap (k.Along.Low * p.Across) = k.Along.Low * p.Across := wrap_eq (by omega) (by omega)
 have e3 : (if p.Across < k.Across.High then p.Across else k.Across.High) = lastC p k := rfl
 have l1 := line_range (c := k.Across.Low) hp' (by omega) (by omega)
 have l2 := line_range (c := lastC p k) hp' h2.1 h2.2
 have f1 : IntKind.i64.wrap (IntKind.i64.wrap (a * p.Across) + IntKind.i64.wrap (IntKind.i64.wrap (p.Along - a) * k.Across.Low)) = lineI a p k.Across.Low := by
  rw [wrap_eq (n := a * p.Across) (by omega) (by omega), wrap_eq (n := p.Along - a) (by omega) (by omega), wrap_eq (n := (p.Along - a) * k.Across.Low) (by omega) (by omega), wrap_eq (by omega) (by omega), lineI]
 have f2 : IntKind.i64.wrap (IntKind.i64.wrap (a * p.Across) + IntKind.i64.wrap (IntKind.i64.wrap (p.Along - a) * lastC p k)) = lineI a p (lastC p k) := by
  rw [wrap_eq (n := a * p.Across) (by omega) (by omega), wrap_eq (n := p.Along - a) (by omega) (by omega), wrap_eq (n := (p.Along - a) * lastC p k) (by omega) (by omega), wrap_eq (by omega) (by omega), lineI]
 have e4 : decide (k.Across.Low > lastC p k) = decide (k.Across.Low > p.Across) := by
  unfold lastC
  by_cases h : p.Across < k.Across.High
  ·simp [h]
  ·have a1 : ¬ k.Across.Low > k.Across.High := by omega
   have a2 : ¬ k.Across.Low > p.Across := by omega
   simp [h, a1, a2]
 simp only [g_ref02_Blocks, e3, e4, f1, f2, e1, e2, csome, behB]
 cases decide (k.Across.Low > p.Across) <;> rfl
end Go.V
end
section
namespace Go.V
open Go Go.Proofs
def g_sight_must (x0_is : Bool) (x1_kind : Int) (x2_number : Int) : Option ((Unit) ⊕ (Gsightfault)) := cond (x0_is) (some (.inl ())) (some (.inr (Gsightfault.mk (GSightFault.mk x1_kind x2_number))))
theorem g_sight_must_ok (x0_is : Bool) (x1_kind : Int) (x2_number : Int) (R : (Unit) ⊕ (Gsightfault)) (h : g_sight_must x0_is x1_kind x2_number = some R) : VPure Tryz.prog G0 110 [.lit (.bool x0_is), .lit (.int .i64 x1_kind), .lit (.int .i64 x2_number)] (presB R (fun r => .tree (.tup [])) (fun e => .panic (.ifc 148 (.agg (cGsightfault e))))) := by
 refine VPure.runR mixed Tryz.call110 Tryz.func110 rfl (by simp [Tryz.ntmps110]; kernel_rfl) ?_
 obtain ⟨KF, h, kF, kN⟩ := fun_intro h
 simp only [g_sight_must] at h
 cases d1 : (x0_is)
 ·simp only [d1, hs] at h
  simp only [vz, tyf, d1, nm, seval]
  refine opd_panic ?_
  obtain rfl := kF _ h
  refine rp_pan ?_ ?_
  ·simp only [tre, tytre, tree_ifc, Bool.and_self]
  ·first | (simp only [outV, uw, showV_ref, showV_ifc, normV_ifc, cr, tyf, nrm, tynrm, d1, nm, seval] <;> rfl) | rfl
 simp only [d1, hs] at h
 try simp only [vz, tyf, d1, nm, seval]
 refine opd_normal (x := (.tup [])) (by first | (simp only [Tryz.results110, resV, resL, resV1, tgt_ptr, tgt_tp, uw, cr, tyf, d1, nm, seval] <;> rfl) | rfl) ?_
 obtain rfl := kF _ h
 refine rr_tree ?_ ?_
 ·simp only [tre, tytre, Bool.and_self]
 ·first | (simp only [outV, uw, showV_ref, cr, tyf, nrm, tynrm, d1, nm, seval] <;> rfl) | rfl
end Go.V
end
