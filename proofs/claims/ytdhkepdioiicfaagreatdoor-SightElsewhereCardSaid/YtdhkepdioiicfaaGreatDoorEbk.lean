/- Part of a proof: a logic of values by content, lifted functions, what follows. -/
import Derived.Test.YtdhkepdioiicfaaGreatDoorEbj
import Derived.Test.YtdhkepdioiicfaaGreatDoorEbf
import Derived.Test.YtdhkepdioiicfaaGreatDoorEbi
set_option linter.all false
set_option maxRecDepth 4000
set_option maxHeartbeats 4000000
section
namespace Go.V
open Go
def farI (a : Int) (p : GSightPlace) : Int := (p.Along - a) * (p.Along - a) + p.Across * p.Across
def PG (a : Int) (p : GSightPlace) : Prop := 0 ≤ a ∧ a ≤ 40 ∧ 0 ≤ p.Along ∧ p.Along ≤ 40 ∧ 1 ≤ p.Across ∧ p.Across ≤ 12
def BL (l : GSightLetter) : Prop := 0 ≤ l.Height ∧ l.Height ≤ 300 ∧ 0 ≤ l.Width ∧ l.Width ≤ 300 ∧ 0 ≤ l.Stroke ∧ l.Stroke ≤ 100 ∧ 0 ≤ l.Space ∧ l.Space ≤ 200
def BK (k : GSightBlock) : Prop := 0 ≤ k.Along.Low ∧ k.Along.Low ≤ k.Along.High ∧ k.Along.High ≤ 40 ∧ 1 ≤ k.Across.Low ∧ k.Across.Low ≤ k.Across.High ∧ k.Across.High ≤ 12
def PW (w : Int) : Prop := 0 ≤ w ∧ w ≤ 4000
theorem far_range {a : Int} {p : GSightPlace} (h : PG a p) : 1 ≤ farI a p ∧ farI a p ≤ 1744 := by
 obtain ⟨h1, h2, h3, h4, h5, h6⟩ := h
 have q1 := sqR (a := p.Along - a) (A := 40) (by omega) (by omega)
 have q2 := mulR (a := p.Across) (A := 12) (b := p.Across) (B := 12) (by omega) (by omega) (by omega) (by omega)
 have q3 : 1 * 1 ≤ p.Across * p.Across := Int.mul_le_mul (by omega) (by omega) (by omega) (by omega)
 unfold farI
 omega
theorem squares1 (x : Int) : g_sight_squares [x] = some (IntKind.i64.wrap (0 + IntKind.i64.wrap (x * x))) := rfl
theorem squares2 (x y : Int) : g_sight_squares [x, y] = some (IntKind.i64.wrap (IntKind.i64.wrap (0 + IntKind.i64.wrap (x * x)) + IntKind.i64.wrap (y * y))) := rfl
theorem far_eq (v : Gsightview) (h : PG v.board.At v.SightPlace) : g_sight_view_far v = some (farI v.board.At v.SightPlace) := by
 have hr := far_range h
 obtain ⟨h1, h2, h3, h4, h5, h6⟩ := h
 have q1 := sqR (a := v.SightPlace.Along - v.board.At) (A := 40) (by omega) (by omega)
 have q2 := mulR (a := v.SightPlace.Across) (A := 12) (b := v.SightPlace.Across) (B := 12) (by omega) (by omega) (by omega) (by omega)
 unfold farI at hr ⊢
 simp only [g_sight_view_far, squares2, Option.bind_some]
 rw [wrap_eq (n := v.SightPlace.Along - v.board.At) (by omega) (by omega), wrap_eq (n := (v.SightPlace.Along - v.board.At) * (v.SightPlace.Along - v.board.At)) (by omega) (by omega), Int.zero_add,
  wrap_eq (n := (v.SightPlace.Along - v.board.At) * (v.SightPlace.Along - v.board.At)) (by omega) (by omega), wrap_eq (n := v.SightPlace.Across * v.SightPlace.Across) (by omega) (by omega), wrap_eq (by omega) (by omega)]
def reachB (w a : Int) (p : GSightPlace) (h : Int) : Bool := decide (10000 * farI a p ≤ (h * w) * (h * w))
def spreadB (w a : Int) (p : GSightPlace) (h : Int) : Bool := decide (100 * farI a p ≤ h * w * p.Across)
theorem reaches_eq (v : Gsightview) (h : Int) (hp : PG v.board.At v.SightPlace) (hw : PW v.power) (h0 : 0 ≤ h) (h1 : h ≤ 1000) : g_sight_view_reaches v h = some (reachB v.power v.board.At v.SightPlace h) := by
 have hr := far_range hp
 have q1 := mulR h0 h1 hw.1 hw.2
 have q2 := sqR (a := h * v.power) (A := 4000000) (by omega) (by omega)
 have e1 : IntKind.i64.wrap (h * v.power) = h * v.power := wrap_eq (by omega) (by omega)
 have e2 : IntKind.i64.wrap ((h * v.power) * (h * v.power)) = (h * v.power) * (h * v.power) := wrap_eq (by omega) (by omega)
 have e3 : g_sight_squares [100] = some 10000 := rfl
 have e4 : IntKind.i64.wrap (10000 * farI v.board.At v.SightPlace) = 10000 * farI v.board.At v.SightPlace := wrap_eq (by omega) (by omega)
 simp only [g_sight_view_reaches, squares1, Option.bind_some, far_eq v hp, e1, e2, e3, e4, Int.zero_add, reachB]
theorem spreads_eq (v : Gsightview) (h : Int) (hp : PG v.board.At v.SightPlace) (hw : PW v.power) (h0 : 0 ≤ h) (h1 : h ≤ 1000) : g_sight_view_spreads v h = some (spreadB v.power v.board.At v.SightPlace h) := by
 have hr := far_range hp
 have q1 := mulR h0 h1 hw.1 hw.2
 have q2 := mulR (a := h * v.power) (A := 4000000) (b := v.SightPlace.Across) (B := 12) (by omega) (by omega) (by unfold PG at hp; omega) (by unfold PG at hp; omega)
 have e1 : IntKind.i64.wrap (h * v.power) = h * v.power := wrap_eq (by omega) (by omega)
 have e2 : IntKind.i64.wrap (h * v.power * v.SightPlace.Across) = h * v.power * v.SightPlace.Across := wrap_eq (by omega) (by omega)
 have e4 : IntKind.i64.wrap (100 * farI v.board.At v.SightPlace) = 100 * farI v.board.At v.SightPlace := wrap_eq (by omega) (by omega)
 simp only [g_sight_view_spreads, Option.bind_some, far_eq v hp, e1, e2, e4, spreadB]
def tallB (w a : Int) (p : GSightPlace) (l : GSightLetter) : Bool := reachB w a p l.Height
def broadB (w a : Int) (p : GSightPlace) (l : GSightLetter) : Bool := spreadB w a p l.Width
def thickB (w a : Int) (p : GSightPlace) (l : GSightLetter) : Bool := reachB w a p (5 * l.Stroke)
def apartB (w a : Int) (p : GSightPlace) (l : GSightLetter) : Bool := spreadB w a p (5 * l.Space)
theorem isTall_eq (v : Gsightview) (i : Int) (l : GSightLetter) (hp : PG v.board.At v.SightPlace) (hw : PW v.power) (hl : BL l) (hi : getI v.board.Letters i = some l) : g_sight_view_isTall v i = some (tallB v.power v.board.At v.SightPlace l) := by
 unfold BL at hl
 simp only [g_sight_view_isTall, hi, Option.bind_some, reaches_eq v l.Height hp hw (by omega) (by omega), tallB]
theorem isBroad_eq (v : Gsightview) (i : Int) (l : GSightLetter) (hp : PG v.board.At v.SightPlace) (hw : PW v.power) (hl : BL l) (hi : getI v.board.Letters i = some l) : g_sight_view_isBroad v i = some (broadB v.power v.board.At v.SightPlace l) := by
 unfold BL at hl
 simp only [g_sight_view_isBroad, hi, Option.bind_some, spreads_eq v l.Width hp hw (by omega) (by omega), broadB]
theorem isThick_eq (v : Gsightview) (i : Int) (l : GSightLetter) (hp : PG v.board.At v.SightPlace) (hw : PW v.power) (hl : BL l) (hi : getI v.board.Letters i = some l) : g_sight_view_isThick v i = some (thickB v.power v.board.At v.SightPlace l) := by
 unfold BL at hl
 have e : IntKind.i64.wrap (5 * l.Stroke) = 5 * l.Stroke := wrap_eq (by omega) (by omega)
 simp only [g_sight_view_isThick, hi, Option.bind_some, e, reaches_eq v (5 * l.Stroke) hp hw (by omega) (by omega), thickB]
theorem isApart_eq (v : Gsightview) (i : Int) (l : GSightLetter) (hp : PG v.board.At v.SightPlace) (hw : PW v.power) (hl : BL l) (hi : getI v.board.Letters i = some l) : g_sight_view_isApart v i = some (apartB v.power v.board.At v.SightPlace l) := by
 unfold BL at hl
 have e : IntKind.i64.wrap (5 * l.Space) = 5 * l.Space := wrap_eq (by omega) (by omega)
 simp only [g_sight_view_isApart, hi, Option.bind_some, e, spreads_eq v (5 * l.Space) hp hw (by omega) (by omega), apartB]
def legB (w a : Int) (p : GSightPlace) (l : GSightLetter) : Bool := tallB w a p l && (broadB w a p l && thickB w a p l)
def lineI (a : Int) (p : GSightPlace) (c : Int) : Int := a * p.Across + (p.Along - a) * c
theorem line_range {a : Int} {p : GSightPlace} {c : Int} (hp : PG a p) (h0 : 0 ≤ c) (h1 : c ≤ 12) : (0 ≤ a * p.Across ∧ a * p.Across ≤ 480) ∧ (-480 ≤ (p.Along - a) * c ∧ (p.Along - a) * c ≤ 480) := by
 unfold PG at hp
 have q1 := mulR (a := a) (A := 40) (b := p.Across) (B := 12) (by omega) (by omega) (by omega) (by omega)
 have q2 := mulS (a := p.Along - a) (A := 40) (b := c) (B := 12) (by omega) (by omega) (by omega) (by omega)
 omega
theorem lineAt_eq (v : Gsightview) (c : Int) (hp : PG v.board.At v.SightPlace) (h0 : 0 ≤ c) (h1 : c ≤ 12) : g_sight_view_lineAt v c = some (lineI v.board.At v.SightPlace c) := by
 have := line_range hp h0 h1
 unfold PG at hp
 simp only [g_sight_view_lineAt, lineI]
 rw [wrap_eq (n := v.board.At * v.SightPlace.Across) (by omega) (by omega), wrap_eq (n := v.SightPlace.Along - v.board.At) (by omega) (by omega), wrap_eq (n := (v.SightPlace.Along - v.board.At) * c) (by omega) (by omega), wrap_eq (by omega) (by omega)]
def lastC (p : GSightPlace) (k : GSightBlock) : Int := if p.Across < k.Across.High then p.Across else k.Across.High
def behB (a : Int) (p : GSightPlace) (k : GSightBlock) : Bool :=
 !decide (k.Across.Low > p.Across) && (decide ((if lineI a p (lastC p k) < lineI a p k.Across.Low then lineI a p (lastC p k) else lineI a p k.Across.Low) ≤ k.Along.High * p.Across) &&
  decide ((if lineI a p k.Across.Low < lineI a p (lastC p k) then lineI a p (lastC p k) else lineI a p k.Across.Low) ≥ k.Along.Low * p.Across))
theorem isBehind_eq (v : Gsightview) (k : GSightBlock) (hp : PG v.board.At v.SightPlace) (hk : BK k) : g_sight_view_isBehind v k = some (behB v.board.At v.SightPlace k) := by
 have hp' := hp
 unfold PG at hp
 unfold BK at hk
 have h2 : 0 ≤ lastC v.SightPlace k ∧ lastC v.SightPlace k ≤ 12 := by unfold lastC; split <;> omega
 have q1 := mulR (a := k.Along.High) (A := 40) (b := v.SightPlace.Across) (B := 12) (by omega) (by omega) (by omega) (by omega)
 have q2 := mulR (a := k.Along.Low) (A := 40) (b := v.SightPlace.Across) (B := 12) (by omega) (by omega) (by omega) (by omega)
 have e1 : IntKind.i64.wrap (k.Along.High * v.SightPlace.Across) = k.Along.High * v.SightPlace.Across := wrap_eq (by omega) (by omega)
 have e2 : IntKind.i64.wrap (k.Along.Low * v.SightPlace.Across) = k.Along.Low * v.SightPlace.Across := wrap_eq (by omega) (by omega)
 have e3 : (if v.SightPlace.Across < k.Across.High then v.SightPlace.Across else k.Across.High) = lastC v.SightPlace k := rfl
 simp only [g_sight_view_isBehind, e3, lineAt_eq v k.Across.Low hp' (by omega) (by omega), lineAt_eq v _ hp' h2.1 h2.2, Option.bind_some, e1, e2, csome, behB]
 cases decide (k.Across.Low > v.SightPlace.Across) <;> rfl
end Go.V
end
section
namespace Go.V
open Go Go.Proofs
def g_sight_must (x0_is : Bool) (x1_kind : Int) (x2_number : Int) : Option ((Unit) ⊕ (Gsightfault)) := cond (x0_is) (some (.inl ())) (some (.inr (Gsightfault.mk (GSightFault.mk x1_kind x2_number))))
theorem g_sight_must_ok (x0_is : Bool) (x1_kind : Int) (x2_number : Int) (R : (Unit) ⊕ (Gsightfault)) (h : g_sight_must x0_is x1_kind x2_number = some R) : VPure Tryz.prog G0 110 [.lit (.bool x0_is), .lit (.int .i64 x1_kind), .lit (.int .i64 x2_number)] (presB R (fun r => .tree (.tup [])) (fun e => .panic (.ifc 148 (.agg (cGsightfault e))))) := by
 refine VPure.runR mixed Tryz.call110 Tryz.func110 rfl (by simp [Tryz.ntmps110]; kernel_rfl) ?_
 obtain ⟨KF, h, kF, kN⟩ := fun_intro h
 simp only [g_sight_must] at h
 cases d1 : (x0_is)
 ·simp only [d1, hs] at h
  simp only [vz, tyf, d1, nm, seval]
  refine opd_panic ?_
  obtain rfl := kF _ h
  refine rp_pan ?_ ?_
  ·simp only [tre, tytre, tree_ifc, Bool.and_self]
  ·first | (simp only [outV, uw, showV_ref, showV_ifc, normV_ifc, cr, tyf, nrm, tynrm, d1, nm, seval] <;> rfl) | rfl
 simp only [d1, hs] at h
 try simp only [vz, tyf, d1, nm, seval]
 refine opd_normal (x := (.tup [])) (by first | (simp only [Tryz.results110, resV, resL, resV1, tgt_ptr, tgt_tp, uw, cr, tyf, d1, nm, seval] <;> rfl) | rfl) ?_
 obtain rfl := kF _ h
 refine rr_tree ?_ ?_
 ·simp only [tre, tytre, Bool.and_self]
 ·first | (simp only [outV, uw, showV_ref, cr, tyf, nrm, tynrm, d1, nm, seval] <;> rfl) | rfl
end Go.V
end
section
namespace Go.V
open Go Go.Proofs
def g_sight_view_firstFault_l4 (x0_v : Gsightview) : Nat → Int → Option (LOut (GSightFault × Bool) (Unit))
 | 0, c4_54 => some (.go ())
 | k4 + 1, c4_54 => Option.bind (g_sight_view_isApart x0_v c4_54) (fun r21 => Option.bind (g_sight_must r21 5 c4_54) (fun r22 => sumB r22 (fun u23 => g_sight_view_firstFault_l4 x0_v k4 (c4_54 + 1)) (fun w24 => some (.ret (w24.SightFault, true)))))
def g_sight_view_firstFault_l3 (x0_v : Gsightview) : List GSightLetter → Int → Option (LOut (GSightFault × Bool) (Unit))
 | [], c3_36 => some (.go ())
 | e3 :: p3, c3_36 => Option.bind (g_sight_view_isThick x0_v c3_36) (fun r16 => Option.bind (g_sight_must r16 4 c3_36) (fun r17 => sumB r17 (fun u18 => g_sight_view_firstFault_l3 x0_v p3 (c3_36 + 1)) (fun w19 => some (.ret (w19.SightFault, true)))))
def g_sight_view_firstFault_l2 (x0_v : Gsightview) : List GSightLetter → Int → Option (LOut (GSightFault × Bool) (Unit))
 | [], c2_36 => some (.go ())
 | e2 :: p2, c2_36 => Option.bind (g_sight_view_isBroad x0_v c2_36) (fun r11 => Option.bind (g_sight_must r11 3 c2_36) (fun r12 => sumB r12 (fun u13 => g_sight_view_firstFault_l2 x0_v p2 (c2_36 + 1)) (fun w14 => some (.ret (w14.SightFault, true)))))
def g_sight_view_firstFault_l1 (x0_v : Gsightview) : List GSightLetter → Int → Option (LOut (GSightFault × Bool) (Unit))
 | [], c1_36 => some (.go ())
 | e1 :: p1, c1_36 => Option.bind (g_sight_view_isTall x0_v c1_36) (fun r6 => Option.bind (g_sight_must r6 2 c1_36) (fun r7 => sumB r7 (fun u8 => g_sight_view_firstFault_l1 x0_v p1 (c1_36 + 1)) (fun w9 => some (.ret (w9.SightFault, true)))))
def g_sight_view_firstFault_l0 (x0_v : Gsightview) : List GSightBlock → Int → Option (LOut (GSightFault × Bool) (Unit))
 | [], c0_15 => some (.go ())
 | e0 :: p0, c0_15 => Option.bind (g_sight_view_isBehind x0_v e0) (fun r1 => Option.bind (g_sight_must (!r1) 1 c0_15) (fun r2 => sumB r2 (fun u3 => g_sight_view_firstFault_l0 x0_v p0 (c0_15 + 1)) (fun w4 => some (.ret (w4.SightFault, true)))))
def g_sight_view_firstFault (x0_v : Gsightview) : Option (GSightFault × Bool) := cond (lenOk x0_v.SightStreet.Blocks) (lbind (g_sight_view_firstFault_l0 x0_v x0_v.SightStreet.Blocks 0) (fun r30 => some r30) (fun c5 => cond (lenOk x0_v.board.Letters) (lbind (g_sight_view_firstFault_l1 x0_v x0_v.board.Letters 0) (fun r29 => some r29) (fun c10 => lbind (g_sight_view_firstFault_l2 x0_v x0_v.board.Letters 0) (fun r28 => some r28) (fun c15 => lbind (g_sight_view_firstFault_l3 x0_v x0_v.board.Letters 0) (fun r27 => some r27) (fun c20 => cond (boundOk (IntKind.i64.wrap ((List.length x0_v.board.Letters : Int) - 1))) (lbind (g_sight_view_firstFault_l4 x0_v (Int.toNat ((IntKind.i64.wrap ((List.length x0_v.board.Letters : Int) - 1)) - 0)) 0) (fun r26 => some r26) (fun c25 => some ((GSightFault.mk 0 0), false)) (fun _ _ => none)) none) (fun _ _ => none)) (fun _ _ => none)) (fun _ _ => none)) none) (fun _ _ => none)) none
theorem g_sight_view_firstFault_ok (x0_v : Gsightview) (R : GSightFault × Bool) (h : g_sight_view_firstFault x0_v = some R) : VPure Tryz.prog G0 79 [.agg (cGsightview x0_v)] (.tree (.tup [.agg (cGSightFault R.1), .lit (.bool R.2)])) := by
 refine VPure.runR mixed Tryz.call79 Tryz.func79 rfl (by simp [Tryz.ntmps79]; kernel_rfl) ?_
 obtain ⟨KF, h, kF, kN⟩ := fun_intro h
 simp only [g_sight_view_firstFault] at h
 cases g32 : (lenOk x0_v.SightStreet.Blocks)
 ·simp only [g32, hs] at h
  exact absurd h kN
 simp only [g32, hs] at h
 simp only [vz, tyf, g32, nm, seval]
 obtain ⟨K31, h, kR31, kG31, kB31, kN31⟩ := lbind_intro h kN
 obtain ⟨f31, hf31, h⟩ := call2 h
 obtain ⟨I31, hI31⟩ : ∃ I : Nat → St → Prop, I = (fun m st => ∃ (p31 : List GSightBlock) (c31_15 : Int), m = List.length p31 ∧ 0 ≤ c31_15 ∧ List.drop (Int.toNat c31_15) x0_v.SightStreet.Blocks = p31 ∧ st.df = [.fn (.func 109) [.ptr 1 0, .ptr 2 0] []] ∧ 10 ≤ st.nx ∧ st.H 0 = some (.cells (some 102) (cGsightview x0_v)) ∧ st.H 1 = some (.cells (some 75) ([.lit (.int .i64 0)] ++ [.lit (.int .i64 0)])) ∧ st.H 2 = some (.cells (some 4) ([.lit (.bool false)])) ∧ st.tm 1 = .ptr 0 0 ∧ st.tm 2 = .ptr 1 0 ∧ st.tm 3 = .ptr 2 0 ∧ st.tm 13 = .sl (cellsL cGSightBlock x0_v.SightStreet.Blocks) (List.length x0_v.SightStreet.Blocks) false ∧ st.tm 14 = .lit (.int .i64 (List.length x0_v.SightStreet.Blocks : Int)) ∧ st.tm 15 = .lit (.int .i64 c31_15) ∧ K31 (f31 p31 c31_15)) := ⟨_, rfl⟩
 refine loopK mixed (by kernel_rfl) I31 (List.length x0_v.SightStreet.Blocks) (by rw [hI31]; refine ⟨x0_v.SightStreet.Blocks, 0, rfl, Int.le_refl _, rfl, rfl, (show 10 ≤ 10 by omega), ?_, ?_, ?_, ?_, ?_, ?_, ?_, ?_, ?_, h⟩ <;> first | (simp only [ua, nm, seval] <;> rfl) | rfl) ?_
 rintro m ⟨tm, H, nx31, df⟩ hinv
 rw [hI31] at hinv
 obtain ⟨p31, c31_15, rfl, hi31, hp31, hdf, hn31, H33, H34, H35, e36, e37, e38, e39, e40, e41, h⟩ := hinv
 simp only at hdf hn31 H33 H34 H35 e36 e37 e38 e39 e40 e41
 have n42 := base_ne0 (m := 10) (b := nx31) (by omega)
 subst hdf hf31
 cases p31 with
 | nil =>
  have d43 : (decide (c31_15 < (List.length x0_v.SightStreet.Blocks : Int))) = false := not_lt_of_drop hi31 hp31
  simp only [g_sight_view_firstFault_l0, hs, reduceCtorEq] at h
  replace h := kG31 _ h
  try dsimp only at h
  try simp only [hs] at h
  try simp only [vz, tyf, g32, n42, e36, e37, e38, e39, e40, e41, H33, H34, H35, d43, nm, seval]
  refine kopen ?_
  rw [openK_eq]
  refine VOpen.run mixed Tryz.call111 Tryz.func111 rfl (by simp [Tryz.ntmps111]; kernel_rfl) ?_
  try simp only [vz, tyf, g32, n42, H33, H34, H35, d43, nm, seval]
  refine opd_ret (x := (.agg ([VV.fn (Fn.func 131) [] []] ++ [VV.fn (Fn.func 132) [] []] ++ [VV.fn (Fn.func 133) [] []]))) (by first | (simp only [Tryz.results111, resV, resL, resV1, tgt_ptr, tgt_tp, uw, cr, tyf, g32, n42, H33, H34, H35, d43, nm, seval] <;> rfl) | rfl) ?_
  simp only [vz, tyf, g32, n42, H33, H34, H35, d43, e36, e37, e38, e39, e40, e41, nm, seval]
  refine cwp_rounds mixed (by kernel_rfl) 4 ?_
  cases g45 : (lenOk x0_v.board.Letters)
  ·simp only [g45, hs] at h
   exact absurd h kN
  simp only [g45, hs] at h
  simp only [vz, tyf, g32, n42, H33, H34, H35, d43, e36, e37, e38, e39, e40, e41, g45, nm, seval]
  obtain ⟨K44, h, kR44, kG44, kB44, kN44⟩ := lbind_intro h kN
  obtain ⟨f44, hf44, h⟩ := call2 h
  obtain ⟨I44, hI44⟩ : ∃ I : Nat → St → Prop, I = (fun m st => ∃ (p44 : List GSightLetter) (c44_36 : Int), m = List.length p44 ∧ 0 ≤ c44_36 ∧ List.drop (Int.toNat c44_36) x0_v.board.Letters = p44 ∧ st.df = [.fn (.func 109) [.ptr 1 0, .ptr 2 0] []] ∧ nx31 + 16 ≤ st.nx ∧ st.H 0 = some (.cells (some 102) (cGsightview x0_v)) ∧ st.H 1 = some (.cells (some 75) ([.lit (.int .i64 0)] ++ [.lit (.int .i64 0)])) ∧ st.H 2 = some (.cells (some 4) ([.lit (.bool false)])) ∧ st.tm 1 = .ptr 0 0 ∧ st.tm 2 = .ptr 1 0 ∧ st.tm 3 = .ptr 2 0 ∧ st.tm 6 = .lit (.int .i64 0) ∧ st.tm 7 = VV.fn (Fn.func 131) [] [] ∧ st.tm 27 = .agg ([VV.fn (Fn.func 131) [] []] ++ [VV.fn (Fn.func 132) [] []] ++ [VV.fn (Fn.func 133) [] []]) ∧ st.tm 28 = .lit (.int .i64 0) ∧ st.tm 35 = .lit (.int .i64 (List.length x0_v.board.Letters : Int)) ∧ st.tm 36 = .lit (.int .i64 c44_36) ∧ K44 (f44 p44 c44_36)) := ⟨_, rfl⟩
  refine loopK mixed (by kernel_rfl) I44 (List.length x0_v.board.Letters) (by rw [hI44]; refine ⟨x0_v.board.Letters, 0, rfl, Int.le_refl _, rfl, rfl, (show nx31 + 16 ≤ nx31 + 16 by omega), ?_, ?_, ?_, e36, e37, e38, ?_, ?_, ?_, ?_, ?_, ?_, h⟩ <;> first | (simp only [ua, n42, H33, H34, H35, d43, e36, e37, e38, e39, e40, e41, nm, seval] <;> rfl) | rfl) ?_
  rintro m ⟨tm, H, nx44, df⟩ hinv
  rw [hI44] at hinv
  obtain ⟨p44, c44_36, rfl, hi44, hp44, hdf, hn44, H46, H47, H48, e49, e50, e51, e52, e53, e54, e55, e56, e57, h⟩ := hinv
  simp only at hdf hn44 H46 H47 H48 e49 e50 e51 e52 e53 e54 e55 e56 e57
  have n58 := base_ne0 (m := 10) (b := nx44) (by omega)
  have n59 := base_ne (a := nx31) (m := 16) (b := nx44) (by omega)
  subst hdf hf44
  cases p44 with
  | nil =>
   have d60 : (decide (c44_36 < (List.length x0_v.board.Letters : Int))) = false := not_lt_of_drop hi44 hp44
   simp only [g_sight_view_firstFault_l1, g_sight_view_firstFault_l2, g_sight_view_firstFault_l3, hs, reduceCtorEq] at h
   replace h := kG44 _ h
   try dsimp only at h
   try simp only [hs] at h
   simp only [vz, tyf, g32, n42, d43, g45, n58, n59, e49, e50, e51, e52, e53, e54, e55, e56, e57, H46, H47, H48, d60, nm, seval]
   obtain ⟨K61, h, kR61, kG61, kB61, kN61⟩ := lbind_intro h kN
   obtain ⟨f61, hf61, h⟩ := call2 h
   obtain ⟨I61, hI61⟩ : ∃ I : Nat → St → Prop, I = (fun m st => ∃ (p61 : List GSightLetter) (c61_36 : Int), m = List.length p61 ∧ 0 ≤ c61_36 ∧ List.drop (Int.toNat c61_36) x0_v.board.Letters = p61 ∧ st.df = [.fn (.func 109) [.ptr 1 0, .ptr 2 0] []] ∧ nx44 + 13 ≤ st.nx ∧ st.H 0 = some (.cells (some 102) (cGsightview x0_v)) ∧ st.H 1 = some (.cells (some 75) ([.lit (.int .i64 0)] ++ [.lit (.int .i64 0)])) ∧ st.H 2 = some (.cells (some 4) ([.lit (.bool false)])) ∧ st.tm 1 = .ptr 0 0 ∧ st.tm 2 = .ptr 1 0 ∧ st.tm 3 = .ptr 2 0 ∧ st.tm 6 = .lit (.int .i64 1) ∧ st.tm 7 = VV.fn (Fn.func 132) [] [] ∧ st.tm 27 = .agg ([VV.fn (Fn.func 131) [] []] ++ [VV.fn (Fn.func 132) [] []] ++ [VV.fn (Fn.func 133) [] []]) ∧ st.tm 28 = .lit (.int .i64 1) ∧ st.tm 35 = .lit (.int .i64 (List.length x0_v.board.Letters : Int)) ∧ st.tm 36 = .lit (.int .i64 c61_36) ∧ K61 (f61 p61 c61_36)) := ⟨_, rfl⟩
   refine loopK mixed (by kernel_rfl) I61 (List.length x0_v.board.Letters) (by rw [hI61]; refine ⟨x0_v.board.Letters, 0, rfl, Int.le_refl _, rfl, rfl, (show nx44 + 13 ≤ nx44 + 13 by omega), ?_, ?_, ?_, e49, e50, e51, ?_, ?_, e54, ?_, ?_, ?_, h⟩ <;> first | (simp only [ua, n42, d43, n58, n59, e49, e50, e51, e52, e53, e54, e55, e56, e57, H46, H47, H48, d60, nm, seval] <;> rfl) | rfl) ?_
   rintro m ⟨tm, H, nx61, df⟩ hinv
   rw [hI61] at hinv
   obtain ⟨p61, c61_36, rfl, hi61, hp61, hdf, hn61, H62, H63, H64, e65, e66, e67, e68, e69, e70, e71, e72, e73, h⟩ := hinv
   simp only at hdf hn61 H62 H63 H64 e65 e66 e67 e68 e69 e70 e71 e72 e73
   have n74 := base_ne0 (m := 10) (b := nx61) (by omega)
   have n75 := base_ne (a := nx31) (m := 16) (b := nx61) (by omega)
   have n76 := base_ne (a := nx44) (m := 13) (b := nx61) (by omega)
   subst hdf hf61
   cases p61 with
   | nil =>
    have d77 : (decide (c61_36 < (List.length x0_v.board.Letters : Int))) = false := not_lt_of_drop hi61 hp61
    simp only [g_sight_view_firstFault_l1, g_sight_view_firstFault_l2, g_sight_view_firstFault_l3, hs, reduceCtorEq] at h
    replace h := kG61 _ h
    try dsimp only at h
    try simp only [hs] at h
    simp only [vz, tyf, g32, n42, d43, g45, n58, n59, d60, n74, n75, n76, e65, e66, e67, e68, e69, e70, e71, e72, e73, H62, H63, H64, d77, nm, seval]
    obtain ⟨K78, h, kR78, kG78, kB78, kN78⟩ := lbind_intro h kN
    obtain ⟨f78, hf78, h⟩ := call2 h
    obtain ⟨I78, hI78⟩ : ∃ I : Nat → St → Prop, I = (fun m st => ∃ (p78 : List GSightLetter) (c78_36 : Int), m = List.length p78 ∧ 0 ≤ c78_36 ∧ List.drop (Int.toNat c78_36) x0_v.board.Letters = p78 ∧ st.df = [.fn (.func 109) [.ptr 1 0, .ptr 2 0] []] ∧ nx61 + 13 ≤ st.nx ∧ st.H 0 = some (.cells (some 102) (cGsightview x0_v)) ∧ st.H 1 = some (.cells (some 75) ([.lit (.int .i64 0)] ++ [.lit (.int .i64 0)])) ∧ st.H 2 = some (.cells (some 4) ([.lit (.bool false)])) ∧ st.tm 1 = .ptr 0 0 ∧ st.tm 2 = .ptr 1 0 ∧ st.tm 3 = .ptr 2 0 ∧ st.tm 6 = .lit (.int .i64 2) ∧ st.tm 7 = VV.fn (Fn.func 133) [] [] ∧ st.tm 27 = .agg ([VV.fn (Fn.func 131) [] []] ++ [VV.fn (Fn.func 132) [] []] ++ [VV.fn (Fn.func 133) [] []]) ∧ st.tm 28 = .lit (.int .i64 2) ∧ st.tm 35 = .lit (.int .i64 (List.length x0_v.board.Letters : Int)) ∧ st.tm 36 = .lit (.int .i64 c78_36) ∧ K78 (f78 p78 c78_36)) := ⟨_, rfl⟩
    refine loopK mixed (by kernel_rfl) I78 (List.length x0_v.board.Letters) (by rw [hI78]; refine ⟨x0_v.board.Letters, 0, rfl, Int.le_refl _, rfl, rfl, (show nx61 + 13 ≤ nx61 + 13 by omega), ?_, ?_, ?_, e65, e66, e67, ?_, ?_, e70, ?_, ?_, ?_, h⟩ <;> first | (simp only [ua, n42, d43, n58, n59, d60, n74, n75, n76, e65, e66, e67, e68, e69, e70, e71, e72, e73, H62, H63, H64, d77, nm, seval] <;> rfl) | rfl) ?_
    rintro m ⟨tm, H, nx78, df⟩ hinv
    rw [hI78] at hinv
    obtain ⟨p78, c78_36, rfl, hi78, hp78, hdf, hn78, H79, H80, H81, e82, e83, e84, e85, e86, e87, e88, e89, e90, h⟩ := hinv
    simp only at hdf hn78 H79 H80 H81 e82 e83 e84 e85 e86 e87 e88 e89 e90
    have n91 := base_ne0 (m := 10) (b := nx78) (by omega)
    have n92 := base_ne (a := nx31) (m := 16) (b := nx78) (by omega)
    have n93 := base_ne (a := nx44) (m := 13) (b := nx78) (by omega)
    have n94 := base_ne (a := nx61) (m := 13) (b := nx78) (by omega)
    subst hdf hf78
    cases p78 with
    | nil =>
     have d95 : (decide (c78_36 < (List.length x0_v.board.Letters : Int))) = false := not_lt_of_drop hi78 hp78
     simp only [g_sight_view_firstFault_l1, g_sight_view_firstFault_l2, g_sight_view_firstFault_l3, hs, reduceCtorEq] at h
     replace h := kG78 _ h
     try dsimp only at h
     try simp only [hs] at h
     cases g97 : (boundOk (IntKind.i64.wrap ((List.length x0_v.board.Letters : Int) - 1)))
     ·simp only [g97, hs] at h
      exact absurd h kN
     simp only [g97, hs] at h
     simp only [vz, tyf, g32, n42, d43, g45, n58, n59, d60, n74, n75, n76, d77, n91, n92, n93, n94, e82, e83, e84, e85, e86, e87, e88, e89, e90, H79, H80, H81, d95, g97, nm, seval]
     obtain ⟨K96, h, kR96, kG96, kB96, kN96⟩ := lbind_intro h kN
     obtain ⟨f96, hf96, h⟩ := call2 h
     obtain ⟨I96, hI96⟩ : ∃ I : Nat → St → Prop, I = (fun m st => ∃ (p96 : Nat) (c96_54 : Int), p96 = m ∧ loOk c96_54 = true ∧ Int.toNat ((IntKind.i64.wrap ((List.length x0_v.board.Letters : Int) - 1)) - c96_54) = p96 ∧ st.df = [.fn (.func 109) [.ptr 1 0, .ptr 2 0] []] ∧ nx78 + 10 ≤ st.nx ∧ st.H 0 = some (.cells (some 102) (cGsightview x0_v)) ∧ st.H 1 = some (.cells (some 75) ([.lit (.int .i64 0)] ++ [.lit (.int .i64 0)])) ∧ st.H 2 = some (.cells (some 4) ([.lit (.bool false)])) ∧ st.tm 1 = .ptr 0 0 ∧ st.tm 2 = .ptr 1 0 ∧ st.tm 3 = .ptr 2 0 ∧ st.tm 53 = .lit (.int .i64 (IntKind.i64.wrap ((List.length x0_v.board.Letters : Int) - 1))) ∧ st.tm 54 = .lit (.int .i64 c96_54) ∧ K96 (f96 p96 c96_54)) := ⟨_, rfl⟩
     refine loopK mixed (by kernel_rfl) I96 (Int.toNat ((IntKind.i64.wrap ((List.length x0_v.board.Letters : Int) - 1)) - 0)) (by rw [hI96]; refine ⟨Int.toNat ((IntKind.i64.wrap ((List.length x0_v.board.Letters : Int) - 1)) - 0), 0, rfl, (by rfl), rfl, rfl, (show nx78 + 10 ≤ nx78 + 10 by omega), ?_, ?_, ?_, e82, e83, e84, ?_, ?_, h⟩ <;> first | (simp only [ua, n42, d43, n58, n59, d60, n74, n75, n76, d77, n91, n92, n93, n94, e82, e83, e84, e85, e86, e87, e88, e89, e90, H79, H80, H81, d95, nm, seval] <;> rfl) | rfl) ?_
     rintro m ⟨tm, H, nx96, df⟩ hinv
     rw [hI96] at hinv
     obtain ⟨p96, c96_54, rfl, hi96, hp96, hdf, hn96, H98, H99, H100, e101, e102, e103, e104, e105, h⟩ := hinv
     simp only at hdf hn96 H98 H99 H100 e101 e102 e103 e104 e105
     have n106 := base_ne0 (m := 10) (b := nx96) (by omega)
     have n107 := base_ne (a := nx31) (m := 16) (b := nx96) (by omega)
     have n108 := base_ne (a := nx44) (m := 13) (b := nx96) (by omega)
     have n109 := base_ne (a := nx61) (m := 13) (b := nx96) (by omega)
     have n110 := base_ne (a := nx78) (m := 10) (b := nx96) (by omega)
     subst hdf hf96
     cases p96 with
     | zero =>
      have d111 : (decide (c96_54 < (IntKind.i64.wrap ((List.length x0_v.board.Letters : Int) - 1)))) = false := cnt_not_lt hp96
      simp only [g_sight_view_firstFault_l4, hs, reduceCtorEq] at h
      replace h := kG96 _ h
      try dsimp only at h
      try simp only [hs] at h
      try simp only [vz, tyf, g32, n42, d43, g45, n58, n59, d60, n74, n75, n76, d77, n91, n92, n93, n94, d95, g97, n106, n107, n108, n109, n110, e101, e102, e103, e104, e105, H98, H99, H100, d111, nm, seval]
      refine opd_retD ?_
      refine VDeferred.run mixed Tryz.call109 Tryz.func109 rfl (by kernel_rfl) ?_
      try simp only [vz, tyf, g32, n42, d43, g45, n58, n59, d60, n74, n75, n76, d77, n91, n92, n93, n94, d95, g97, n106, n107, n108, n109, n110, H98, H99, H100, d111, nm, seval]
      refine dpost_normal Tryz.results109 ?_
      refine afterD_ret (x := (.tup [.agg ([.lit (.int .i64 0)] ++ [.lit (.int .i64 0)]), .lit (.bool false)])) (by first | (simp only [Tryz.results79, resV, resL, resV1, tgt_ptr, tgt_tp, uw, cr, tyf, g32, n42, d43, g45, n58, n59, d60, n74, n75, n76, d77, n91, n92, n93, n94, d95, g97, n106, n107, n108, n109, n110, H98, H99, H100, d111, e101, e102, e103, e104, e105, nm, seval] <;> rfl) | rfl) ?_
      obtain rfl := kF _ h
      refine rr_tree ?_ ?_
      ·simp only [tre, tytre, Bool.and_self]
      ·first | (simp only [outV, uw, showV_ref, cr, tyf, nrm, tynrm, g32, n42, d43, g45, n58, n59, d60, n74, n75, n76, d77, n91, n92, n93, n94, d95, g97, n106, n107, n108, n109, n110, H98, H99, H100, d111, e101, e102, e103, e104, e105, nm, seval] <;> rfl) | rfl
     | succ p96 =>
      have d112 : (decide (c96_54 < (IntKind.i64.wrap ((List.length x0_v.board.Letters : Int) - 1)))) = true := cnt_lt hp96
      have w113 := cnt_wrap hi96 hp96 g97
      simp only [g_sight_view_firstFault_l4, hs, reduceCtorEq] at h
      rcases o115 : (g_sight_view_isApart x0_v c96_54) with _ | r114
      ·simp only [o115, hs] at h
       exact absurd h kN96
      simp only [o115, hs] at h
      simp only [vz, tyf, g32, n42, d43, g45, n58, n59, d60, n74, n75, n76, d77, n91, n92, n93, n94, d95, g97, n106, n107, n108, n109, n110, e101, e102, e103, e104, e105, H98, H99, H100, d112, w113, nm, seval]
      refine ktree (args0 := [.agg (cGsightview x0_v), .lit (.int .i64 c96_54)]) (by first | (simp only [nrm, tynrm] <;> rfl) | rfl) (by simp only [tre, tytre, Bool.and_self]) (g_sight_view_isApart_ok _ _ _ o115) ?_
      refine fin_cut (fun tm => tm 1 = .ptr 0 0 ∧ tm 2 = .ptr 1 0 ∧ tm 3 = .ptr 2 0 ∧ tm 9 = .lit (.int .i64 c96_54) ∧ tm 53 = .lit (.int .i64 (IntKind.i64.wrap ((List.length x0_v.board.Letters : Int) - 1))) ∧ tm 54 = .lit (.int .i64 c96_54) ∧ tm 59 = .lit (.bool r114) ∧ True) (by refine ⟨e101, e102, e103, ?_, e104, e105, ?_, trivial⟩ <;> first | (simp only [ua, n42, d43, n58, n59, d60, n74, n75, n76, d77, n91, n92, n93, n94, d95, n106, n107, n108, n109, n110, e101, e102, e103, e104, e105, H98, H99, H100, d112, w113, nm, seval] <;> rfl) | rfl) ?_
      rintro tm ⟨e116, e117, e118, e119, e120, e121, e122, _⟩
      have b123 := And.intro g32 (And.intro n42 (And.intro d43 (And.intro g45 (And.intro n58 (And.intro n59 (And.intro d60 (And.intro n74 (And.intro n75 (And.intro n76 (And.intro d77 (And.intro n91 (And.intro n92 (And.intro n93 (And.intro n94 (And.intro d95 (And.intro g97 (And.intro n106 (And.intro n107 (And.intro n108 (And.intro n109 (And.intro n110 (And.intro H98 (And.intro H99 (And.intro H100 (And.intro d112 w113)))))))))))))))))))))))))
      rcases o125 : (g_sight_must r114 5 c96_54) with _ | r124
      ·simp only [o125, hs] at h
       exact absurd h kN96
      simp only [o125, hs] at h
      cases r124 with
      | inl u126 =>
       simp only [hs] at h
       simp only [vz, tyf, b123, e116, e117, e118, e119, e120, e121, e122, nm, seval]
       refine ktree (args0 := [.lit (.bool r114), .lit (.int .i64 5), .lit (.int .i64 c96_54)]) (by first | (simp only [nrm, tynrm] <;> rfl) | rfl) (by simp only [tre, tytre, Bool.and_self]) (g_sight_must_ok _ _ _ _ o125) ?_
       refine fin_cut (fun tm => tm 1 = .ptr 0 0 ∧ tm 2 = .ptr 1 0 ∧ tm 3 = .ptr 2 0 ∧ tm 53 = .lit (.int .i64 (IntKind.i64.wrap ((List.length x0_v.board.Letters : Int) - 1))) ∧ tm 54 = .lit (.int .i64 c96_54) ∧ True) (by refine ⟨e116, e117, e118, e120, e121, trivial⟩ <;> first | (simp only [ua, b123, e116, e117, e118, e119, e120, e121, e122, nm, seval] <;> rfl) | rfl) ?_
       rintro tm ⟨e128, e129, e130, e131, e132, _⟩
       simp only [vz, tyf, b123, e128, e129, e130, e131, e132, nm, seval]
       exact ⟨p96, Nat.lt_succ_self _, by rw [hI96]; refine ⟨p96, c96_54 + 1, rfl, cnt_lo hi96, cnt_next hp96, rfl, (show nx78 + 10 ≤ nx96 + 10 by omega), ?_, ?_, ?_, e128, e129, e130, e131, ?_, h⟩ <;> first | (simp only [ua, b123, e128, e129, e130, e131, e132, nm, seval] <;> rfl) | rfl⟩
      | inr w127 =>
       simp only [hs] at h
       simp only [vz, tyf, b123, e116, e117, e118, e119, e120, e121, e122, nm, seval]
       refine kpan (args0 := [.lit (.bool r114), .lit (.int .i64 5), .lit (.int .i64 c96_54)]) (by first | (simp only [nrm, tynrm] <;> rfl) | rfl) (by simp only [tre, tytre, Bool.and_self]) (g_sight_must_ok _ _ _ _ o125) ?_
       try simp only [vz, tyf, b123, e116, e117, e118, e119, e120, e121, e122, nm, seval]
       refine opd_panicD ?_
       refine VDeferred.run mixed Tryz.call109 Tryz.func109 rfl (by kernel_rfl) ?_
       try simp only [vz, tyf, b123, nm, seval]
       refine dpost_normal Tryz.results109 ?_
       refine afterD_rec (x := (.tup [.agg (cGSightFault w127.SightFault), .lit (.bool true)])) (by first | (simp only [Tryz.results79, resV, resL, resV1, tgt_ptr, tgt_tp, uw, cr, tyf, b123, e116, e117, e118, e119, e120, e121, e122, nm, seval] <;> rfl) | rfl) ?_
       replace h := kR96 _ h
       try dsimp only at h
       obtain rfl := kF _ h
       refine rr_tree ?_ ?_
       ·simp only [tre, tytre, Bool.and_self]
       ·first | (simp only [outV, uw, showV_ref, cr, tyf, nrm, tynrm, b123, e116, e117, e118, e119, e120, e121, e122, nm, seval] <;> rfl) | rfl
    | cons e78 p78 =>
     have d133 : (decide (c78_36 < (List.length x0_v.board.Letters : Int))) = true := lt_of_drop hi78 hp78
     have o135 := getI_of_drop hi78 hp78
     have w134 := wrap_next hi78 hp78 g45
     simp only [g_sight_view_firstFault_l1, g_sight_view_firstFault_l2, g_sight_view_firstFault_l3, hs, reduceCtorEq] at h
     rcases o137 : (g_sight_view_isThick x0_v c78_36) with _ | r136
     ·simp only [o137, hs] at h
      exact absurd h kN78
     simp only [o137, hs] at h
     simp only [vz, tyf, g32, n42, d43, g45, n58, n59, d60, n74, n75, n76, d77, n91, n92, n93, n94, e82, e83, e84, e85, e86, e87, e88, e89, e90, H79, H80, H81, d133, (ix38 o135), w134, nm, seval]
     refine ktree (args0 := [.agg (cGsightview x0_v), .lit (.int .i64 c78_36)]) (by first | (simp only [nrm, tynrm] <;> rfl) | rfl) (by simp only [tre, tytre, Bool.and_self]) (g_sight_view_isThick_ok _ _ _ o137) ?_
     refine fin_cut (fun tm => tm 1 = .ptr 0 0 ∧ tm 2 = .ptr 1 0 ∧ tm 3 = .ptr 2 0 ∧ tm 6 = .lit (.int .i64 2) ∧ tm 7 = VV.fn (Fn.func 133) [] [] ∧ tm 8 = .lit (.int .i64 c78_36) ∧ tm 27 = .agg ([VV.fn (Fn.func 131) [] []] ++ [VV.fn (Fn.func 132) [] []] ++ [VV.fn (Fn.func 133) [] []]) ∧ tm 28 = .lit (.int .i64 2) ∧ tm 35 = .lit (.int .i64 (List.length x0_v.board.Letters : Int)) ∧ tm 36 = .lit (.int .i64 c78_36) ∧ tm 42 = .lit (.bool r136) ∧ True) (by refine ⟨e82, e83, e84, e85, e86, ?_, e87, e88, e89, e90, ?_, trivial⟩ <;> first | (simp only [ua, n42, d43, n58, n59, d60, n74, n75, n76, d77, n91, n92, n93, n94, e82, e83, e84, e85, e86, e87, e88, e89, e90, H79, H80, H81, d133, w134, nm, seval] <;> rfl) | rfl) ?_
     rintro tm ⟨e138, e139, e140, e141, e142, e143, e144, e145, e146, e147, e148, _⟩
     have b149 := And.intro g32 (And.intro n42 (And.intro d43 (And.intro g45 (And.intro n58 (And.intro n59 (And.intro d60 (And.intro n74 (And.intro n75 (And.intro n76 (And.intro d77 (And.intro n91 (And.intro n92 (And.intro n93 (And.intro n94 (And.intro H79 (And.intro H80 (And.intro H81 (And.intro d133 w134))))))))))))))))))
     rcases o151 : (g_sight_must r136 4 c78_36) with _ | r150
     ·simp only [o151, hs] at h
      exact absurd h kN78
     simp only [o151, hs] at h
     cases r150 with
     | inl u152 =>
      simp only [hs] at h
      simp only [vz, tyf, b149, (ix38 o135), e138, e139, e140, e141, e142, e143, e144, e145, e146, e147, e148, nm, seval]
      refine ktree (args0 := [.lit (.bool r136), .lit (.int .i64 4), .lit (.int .i64 c78_36)]) (by first | (simp only [nrm, tynrm] <;> rfl) | rfl) (by simp only [tre, tytre, Bool.and_self]) (g_sight_must_ok _ _ _ _ o151) ?_
      refine fin_cut (fun tm => tm 1 = .ptr 0 0 ∧ tm 2 = .ptr 1 0 ∧ tm 3 = .ptr 2 0 ∧ tm 6 = .lit (.int .i64 2) ∧ tm 7 = VV.fn (Fn.func 133) [] [] ∧ tm 27 = .agg ([VV.fn (Fn.func 131) [] []] ++ [VV.fn (Fn.func 132) [] []] ++ [VV.fn (Fn.func 133) [] []]) ∧ tm 28 = .lit (.int .i64 2) ∧ tm 35 = .lit (.int .i64 (List.length x0_v.board.Letters : Int)) ∧ tm 36 = .lit (.int .i64 c78_36) ∧ True) (by refine ⟨e138, e139, e140, e141, e142, e144, e145, e146, e147, trivial⟩ <;> first | (simp only [ua, b149, e138, e139, e140, e141, e142, e143, e144, e145, e146, e147, e148, nm, seval] <;> rfl) | rfl) ?_
      rintro tm ⟨e154, e155, e156, e157, e158, e159, e160, e161, e162, _⟩
      simp only [vz, tyf, b149, (ix38 o135), e154, e155, e156, e157, e158, e159, e160, e161, e162, nm, seval]
      exact ⟨List.length p78, Nat.lt_succ_self _, by rw [hI78]; refine ⟨p78, c78_36 + 1, rfl, Int.le_trans hi78 (Int.le_add_one (Int.le_refl _)), drop_next hi78 hp78, rfl, (show nx61 + 13 ≤ nx78 + 13 by omega), ?_, ?_, ?_, e154, e155, e156, e157, e158, e159, e160, e161, ?_, h⟩ <;> first | (simp only [ua, b149, e154, e155, e156, e157, e158, e159, e160, e161, e162, nm, seval] <;> rfl) | rfl⟩
     | inr w153 =>
      simp only [hs] at h
      simp only [vz, tyf, b149, (ix38 o135), e138, e139, e140, e141, e142, e143, e144, e145, e146, e147, e148, nm, seval]
      refine kpan (args0 := [.lit (.bool r136), .lit (.int .i64 4), .lit (.int .i64 c78_36)]) (by first | (simp only [nrm, tynrm] <;> rfl) | rfl) (by simp only [tre, tytre, Bool.and_self]) (g_sight_must_ok _ _ _ _ o151) ?_
      try simp only [vz, tyf, b149, (ix38 o135), e138, e139, e140, e141, e142, e143, e144, e145, e146, e147, e148, nm, seval]
      refine opd_panicD ?_
      refine VDeferred.run mixed Tryz.call109 Tryz.func109 rfl (by kernel_rfl) ?_
      try simp only [vz, tyf, b149, (ix38 o135), nm, seval]
      refine dpost_normal Tryz.results109 ?_
      refine afterD_rec (x := (.tup [.agg (cGSightFault w153.SightFault), .lit (.bool true)])) (by first | (simp only [Tryz.results79, resV, resL, resV1, tgt_ptr, tgt_tp, uw, cr, tyf, b149, (ix38 o135), e138, e139, e140, e141, e142, e143, e144, e145, e146, e147, e148, nm, seval] <;> rfl) | rfl) ?_
      replace h := kR78 _ h
      try dsimp only at h
      obtain rfl := kF _ h
      refine rr_tree ?_ ?_
      ·simp only [tre, tytre, Bool.and_self]
      ·first | (simp only [outV, uw, showV_ref, cr, tyf, nrm, tynrm, b149, (ix38 o135), e138, e139, e140, e141, e142, e143, e144, e145, e146, e147, e148, nm, seval] <;> rfl) | rfl
   | cons e61 p61 =>
    have d163 : (decide (c61_36 < (List.length x0_v.board.Letters : Int))) = true := lt_of_drop hi61 hp61
    have o165 := getI_of_drop hi61 hp61
    have w164 := wrap_next hi61 hp61 g45
    simp only [g_sight_view_firstFault_l1, g_sight_view_firstFault_l2, g_sight_view_firstFault_l3, hs, reduceCtorEq] at h
    rcases o167 : (g_sight_view_isBroad x0_v c61_36) with _ | r166
    ·simp only [o167, hs] at h
     exact absurd h kN61
    simp only [o167, hs] at h
    simp only [vz, tyf, g32, n42, d43, g45, n58, n59, d60, n74, n75, n76, e65, e66, e67, e68, e69, e70, e71, e72, e73, H62, H63, H64, d163, (ix38 o165), w164, nm, seval]
    refine ktree (args0 := [.agg (cGsightview x0_v), .lit (.int .i64 c61_36)]) (by first | (simp only [nrm, tynrm] <;> rfl) | rfl) (by simp only [tre, tytre, Bool.and_self]) (g_sight_view_isBroad_ok _ _ _ o167) ?_
    refine fin_cut (fun tm => tm 1 = .ptr 0 0 ∧ tm 2 = .ptr 1 0 ∧ tm 3 = .ptr 2 0 ∧ tm 6 = .lit (.int .i64 1) ∧ tm 7 = VV.fn (Fn.func 132) [] [] ∧ tm 8 = .lit (.int .i64 c61_36) ∧ tm 27 = .agg ([VV.fn (Fn.func 131) [] []] ++ [VV.fn (Fn.func 132) [] []] ++ [VV.fn (Fn.func 133) [] []]) ∧ tm 28 = .lit (.int .i64 1) ∧ tm 35 = .lit (.int .i64 (List.length x0_v.board.Letters : Int)) ∧ tm 36 = .lit (.int .i64 c61_36) ∧ tm 42 = .lit (.bool r166) ∧ True) (by refine ⟨e65, e66, e67, e68, e69, ?_, e70, e71, e72, e73, ?_, trivial⟩ <;> first | (simp only [ua, n42, d43, n58, n59, d60, n74, n75, n76, e65, e66, e67, e68, e69, e70, e71, e72, e73, H62, H63, H64, d163, w164, nm, seval] <;> rfl) | rfl) ?_
    rintro tm ⟨e168, e169, e170, e171, e172, e173, e174, e175, e176, e177, e178, _⟩
    have b179 := And.intro g32 (And.intro n42 (And.intro d43 (And.intro g45 (And.intro n58 (And.intro n59 (And.intro d60 (And.intro n74 (And.intro n75 (And.intro n76 (And.intro H62 (And.intro H63 (And.intro H64 (And.intro d163 w164)))))))))))))
    rcases o181 : (g_sight_must r166 3 c61_36) with _ | r180
    ·simp only [o181, hs] at h
     exact absurd h kN61
    simp only [o181, hs] at h
    cases r180 with
    | inl u182 =>
     simp only [hs] at h
     simp only [vz, tyf, b179, (ix38 o165), e168, e169, e170, e171, e172, e173, e174, e175, e176, e177, e178, nm, seval]
     refine ktree (args0 := [.lit (.bool r166), .lit (.int .i64 3), .lit (.int .i64 c61_36)]) (by first | (simp only [nrm, tynrm] <;> rfl) | rfl) (by simp only [tre, tytre, Bool.and_self]) (g_sight_must_ok _ _ _ _ o181) ?_
     refine fin_cut (fun tm => tm 1 = .ptr 0 0 ∧ tm 2 = .ptr 1 0 ∧ tm 3 = .ptr 2 0 ∧ tm 6 = .lit (.int .i64 1) ∧ tm 7 = VV.fn (Fn.func 132) [] [] ∧ tm 27 = .agg ([VV.fn (Fn.func 131) [] []] ++ [VV.fn (Fn.func 132) [] []] ++ [VV.fn (Fn.func 133) [] []]) ∧ tm 28 = .lit (.int .i64 1) ∧ tm 35 = .lit (.int .i64 (List.length x0_v.board.Letters : Int)) ∧ tm 36 = .lit (.int .i64 c61_36) ∧ True) (by refine ⟨e168, e169, e170, e171, e172, e174, e175, e176, e177, trivial⟩ <;> first | (simp only [ua, b179, e168, e169, e170, e171, e172, e173, e174, e175, e176, e177, e178, nm, seval] <;> rfl) | rfl) ?_
     rintro tm ⟨e184, e185, e186, e187, e188, e189, e190, e191, e192, _⟩
     simp only [vz, tyf, b179, (ix38 o165), e184, e185, e186, e187, e188, e189, e190, e191, e192, nm, seval]
     exact ⟨List.length p61, Nat.lt_succ_self _, by rw [hI61]; refine ⟨p61, c61_36 + 1, rfl, Int.le_trans hi61 (Int.le_add_one (Int.le_refl _)), drop_next hi61 hp61, rfl, (show nx44 + 13 ≤ nx61 + 13 by omega), ?_, ?_, ?_, e184, e185, e186, e187, e188, e189, e190, e191, ?_, h⟩ <;> first | (simp only [ua, b179, e184, e185, e186, e187, e188, e189, e190, e191, e192, nm, seval] <;> rfl) | rfl⟩
    | inr w183 =>
     simp only [hs] at h
     simp only [vz, tyf, b179, (ix38 o165), e168, e169, e170, e171, e172, e173, e174, e175, e176, e177, e178, nm, seval]
     refine kpan (args0 := [.lit (.bool r166), .lit (.int .i64 3), .lit (.int .i64 c61_36)]) (by first | (simp only [nrm, tynrm] <;> rfl) | rfl) (by simp only [tre, tytre, Bool.and_self]) (g_sight_must_ok _ _ _ _ o181) ?_
     try simp only [vz, tyf, b179, (ix38 o165), e168, e169, e170, e171, e172, e173, e174, e175, e176, e177, e178, nm, seval]
     refine opd_panicD ?_
     refine VDeferred.run mixed Tryz.call109 Tryz.func109 rfl (by kernel_rfl) ?_
     try simp only [vz, tyf, b179, (ix38 o165), nm, seval]
     refine dpost_normal Tryz.results109 ?_
     refine afterD_rec (x := (.tup [.agg (cGSightFault w183.SightFault), .lit (.bool true)])) (by first | (simp only [Tryz.results79, resV, resL, resV1, tgt_ptr, tgt_tp, uw, cr, tyf, b179, (ix38 o165), e168, e169, e170, e171, e172, e173, e174, e175, e176, e177, e178, nm, seval] <;> rfl) | rfl) ?_
     replace h := kR61 _ h
     try dsimp only at h
     obtain rfl := kF _ h
     refine rr_tree ?_ ?_
     ·simp only [tre, tytre, Bool.and_self]
     ·first | (simp only [outV, uw, showV_ref, cr, tyf, nrm, tynrm, b179, (ix38 o165), e168, e169, e170, e171, e172, e173, e174, e175, e176, e177, e178, nm, seval] <;> rfl) | rfl
  | cons e44 p44 =>
   have d193 : (decide (c44_36 < (List.length x0_v.board.Letters : Int))) = true := lt_of_drop hi44 hp44
   have o195 := getI_of_drop hi44 hp44
   have w194 := wrap_next hi44 hp44 g45
   simp only [g_sight_view_firstFault_l1, g_sight_view_firstFault_l2, g_sight_view_firstFault_l3, hs, reduceCtorEq] at h
   rcases o197 : (g_sight_view_isTall x0_v c44_36) with _ | r196
   ·simp only [o197, hs] at h
    exact absurd h kN44
   simp only [o197, hs] at h
   simp only [vz, tyf, g32, n42, d43, g45, n58, n59, e49, e50, e51, e52, e53, e54, e55, e56, e57, H46, H47, H48, d193, (ix38 o195), w194, nm, seval]
   refine ktree (args0 := [.agg (cGsightview x0_v), .lit (.int .i64 c44_36)]) (by first | (simp only [nrm, tynrm] <;> rfl) | rfl) (by simp only [tre, tytre, Bool.and_self]) (g_sight_view_isTall_ok _ _ _ o197) ?_
   refine fin_cut (fun tm => tm 1 = .ptr 0 0 ∧ tm 2 = .ptr 1 0 ∧ tm 3 = .ptr 2 0 ∧ tm 6 = .lit (.int .i64 0) ∧ tm 7 = VV.fn (Fn.func 131) [] [] ∧ tm 8 = .lit (.int .i64 c44_36) ∧ tm 27 = .agg ([VV.fn (Fn.func 131) [] []] ++ [VV.fn (Fn.func 132) [] []] ++ [VV.fn (Fn.func 133) [] []]) ∧ tm 28 = .lit (.int .i64 0) ∧ tm 35 = .lit (.int .i64 (List.length x0_v.board.Letters : Int)) ∧ tm 36 = .lit (.int .i64 c44_36) ∧ tm 42 = .lit (.bool r196) ∧ True) (by refine ⟨e49, e50, e51, e52, e53, ?_, e54, e55, e56, e57, ?_, trivial⟩ <;> first | (simp only [ua, n42, d43, n58, n59, e49, e50, e51, e52, e53, e54, e55, e56, e57, H46, H47, H48, d193, w194, nm, seval] <;> rfl) | rfl) ?_
   rintro tm ⟨e198, e199, e200, e201, e202, e203, e204, e205, e206, e207, e208, _⟩
   have b209 := And.intro g32 (And.intro n42 (And.intro d43 (And.intro g45 (And.intro n58 (And.intro n59 (And.intro H46 (And.intro H47 (And.intro H48 (And.intro d193 w194)))))))))
   rcases o211 : (g_sight_must r196 2 c44_36) with _ | r210
   ·simp only [o211, hs] at h
    exact absurd h kN44
   simp only [o211, hs] at h
   cases r210 with
   | inl u212 =>
    simp only [hs] at h
    simp only [vz, tyf, b209, (ix38 o195), e198, e199, e200, e201, e202, e203, e204, e205, e206, e207, e208, nm, seval]
    refine ktree (args0 := [.lit (.bool r196), .lit (.int .i64 2), .lit (.int .i64 c44_36)]) (by first | (simp only [nrm, tynrm] <;> rfl) | rfl) (by simp only [tre, tytre, Bool.and_self]) (g_sight_must_ok _ _ _ _ o211) ?_
    refine fin_cut (fun tm => tm 1 = .ptr 0 0 ∧ tm 2 = .ptr 1 0 ∧ tm 3 = .ptr 2 0 ∧ tm 6 = .lit (.int .i64 0) ∧ tm 7 = VV.fn (Fn.func 131) [] [] ∧ tm 27 = .agg ([VV.fn (Fn.func 131) [] []] ++ [VV.fn (Fn.func 132) [] []] ++ [VV.fn (Fn.func 133) [] []]) ∧ tm 28 = .lit (.int .i64 0) ∧ tm 35 = .lit (.int .i64 (List.length x0_v.board.Letters : Int)) ∧ tm 36 = .lit (.int .i64 c44_36) ∧ True) (by refine ⟨e198, e199, e200, e201, e202, e204, e205, e206, e207, trivial⟩ <;> first | (simp only [ua, b209, e198, e199, e200, e201, e202, e203, e204, e205, e206, e207, e208, nm, seval] <;> rfl) | rfl) ?_
    rintro tm ⟨e214, e215, e216, e217, e218, e219, e220, e221, e222, _⟩
    simp only [vz, tyf, b209, (ix38 o195), e214, e215, e216, e217, e218, e219, e220, e221, e222, nm, seval]
    exact ⟨List.length p44, Nat.lt_succ_self _, by rw [hI44]; refine ⟨p44, c44_36 + 1, rfl, Int.le_trans hi44 (Int.le_add_one (Int.le_refl _)), drop_next hi44 hp44, rfl, (show nx31 + 16 ≤ nx44 + 13 by omega), ?_, ?_, ?_, e214, e215, e216, e217, e218, e219, e220, e221, ?_, h⟩ <;> first | (simp only [ua, b209, e214, e215, e216, e217, e218, e219, e220, e221, e222, nm, seval] <;> rfl) | rfl⟩
   | inr w213 =>
    simp only [hs] at h
    simp only [vz, tyf, b209, (ix38 o195), e198, e199, e200, e201, e202, e203, e204, e205, e206, e207, e208, nm, seval]
    refine kpan (args0 := [.lit (.bool r196), .lit (.int .i64 2), .lit (.int .i64 c44_36)]) (by first | (simp only [nrm, tynrm] <;> rfl) | rfl) (by simp only [tre, tytre, Bool.and_self]) (g_sight_must_ok _ _ _ _ o211) ?_
    try simp only [vz, tyf, b209, (ix38 o195), e198, e199, e200, e201, e202, e203, e204, e205, e206, e207, e208, nm, seval]
    refine opd_panicD ?_
    refine VDeferred.run mixed Tryz.call109 Tryz.func109 rfl (by kernel_rfl) ?_
    try simp only [vz, tyf, b209, (ix38 o195), nm, seval]
    refine dpost_normal Tryz.results109 ?_
    refine afterD_rec (x := (.tup [.agg (cGSightFault w213.SightFault), .lit (.bool true)])) (by first | (simp only [Tryz.results79, resV, resL, resV1, tgt_ptr, tgt_tp, uw, cr, tyf, b209, (ix38 o195), e198, e199, e200, e201, e202, e203, e204, e205, e206, e207, e208, nm, seval] <;> rfl) | rfl) ?_
    replace h := kR44 _ h
    try dsimp only at h
    obtain rfl := kF _ h
    refine rr_tree ?_ ?_
    ·simp only [tre, tytre, Bool.and_self]
    ·first | (simp only [outV, uw, showV_ref, cr, tyf, nrm, tynrm, b209, (ix38 o195), e198, e199, e200, e201, e202, e203, e204, e205, e206, e207, e208, nm, seval] <;> rfl) | rfl
 | cons e31 p31 =>
  have d223 : (decide (c31_15 < (List.length x0_v.SightStreet.Blocks : Int))) = true := lt_of_drop hi31 hp31
  have o225 := getI_of_drop hi31 hp31
  have w224 := wrap_next hi31 hp31 g32
  simp only [g_sight_view_firstFault_l0, hs, reduceCtorEq] at h
  rcases o227 : (g_sight_view_isBehind x0_v e31) with _ | r226
  ·simp only [o227, hs] at h
   exact absurd h kN31
  simp only [o227, hs] at h
  simp only [vz, tyf, g32, n42, e36, e37, e38, e39, e40, e41, H33, H34, H35, d223, (ix25 o225), w224, nm, seval]
  refine ktree (args0 := [.agg (cGsightview x0_v), .agg (cGSightBlock e31)]) (by first | (simp only [nrm, tynrm] <;> rfl) | rfl) (by simp only [tre, tytre, Bool.and_self]) (g_sight_view_isBehind_ok _ _ _ o227) ?_
  refine fin_cut (fun tm => tm 1 = .ptr 0 0 ∧ tm 2 = .ptr 1 0 ∧ tm 3 = .ptr 2 0 ∧ tm 4 = .lit (.int .i64 c31_15) ∧ tm 13 = .sl (cellsL cGSightBlock x0_v.SightStreet.Blocks) (List.length x0_v.SightStreet.Blocks) false ∧ tm 14 = .lit (.int .i64 (List.length x0_v.SightStreet.Blocks : Int)) ∧ tm 15 = .lit (.int .i64 c31_15) ∧ tm 22 = .lit (.bool r226) ∧ True) (by refine ⟨e36, e37, e38, ?_, e39, e40, e41, ?_, trivial⟩ <;> first | (simp only [ua, n42, e36, e37, e38, e39, e40, e41, H33, H34, H35, d223, w224, nm, seval] <;> rfl) | rfl) ?_
  rintro tm ⟨e228, e229, e230, e231, e232, e233, e234, e235, _⟩
  have b236 := And.intro g32 (And.intro n42 (And.intro H33 (And.intro H34 (And.intro H35 (And.intro d223 w224)))))
  rcases o238 : (g_sight_must (!r226) 1 c31_15) with _ | r237
  ·simp only [o238, hs] at h
   exact absurd h kN31
  simp only [o238, hs] at h
  cases r237 with
  | inl u239 =>
   simp only [hs] at h
   simp only [vz, tyf, b236, (ix25 o225), e228, e229, e230, e231, e232, e233, e234, e235, nm, seval]
   refine ktree (args0 := [.lit (.bool (!r226)), .lit (.int .i64 1), .lit (.int .i64 c31_15)]) (by first | (simp only [nrm, tynrm] <;> rfl) | rfl) (by simp only [tre, tytre, Bool.and_self]) (g_sight_must_ok _ _ _ _ o238) ?_
   refine fin_cut (fun tm => tm 1 = .ptr 0 0 ∧ tm 2 = .ptr 1 0 ∧ tm 3 = .ptr 2 0 ∧ tm 13 = .sl (cellsL cGSightBlock x0_v.SightStreet.Blocks) (List.length x0_v.SightStreet.Blocks) false ∧ tm 14 = .lit (.int .i64 (List.length x0_v.SightStreet.Blocks : Int)) ∧ tm 15 = .lit (.int .i64 c31_15) ∧ True) (by refine ⟨e228, e229, e230, e232, e233, e234, trivial⟩ <;> first | (simp only [ua, b236, e228, e229, e230, e231, e232, e233, e234, e235, nm, seval] <;> rfl) | rfl) ?_
   rintro tm ⟨e241, e242, e243, e244, e245, e246, _⟩
   simp only [vz, tyf, b236, (ix25 o225), e241, e242, e243, e244, e245, e246, nm, seval]
   exact ⟨List.length p31, Nat.lt_succ_self _, by rw [hI31]; refine ⟨p31, c31_15 + 1, rfl, Int.le_trans hi31 (Int.le_add_one (Int.le_refl _)), drop_next hi31 hp31, rfl, (show 10 ≤ nx31 + 15 by omega), ?_, ?_, ?_, e241, e242, e243, e244, e245, ?_, h⟩ <;> first | (simp only [ua, b236, e241, e242, e243, e244, e245, e246, nm, seval] <;> rfl) | rfl⟩
  | inr w240 =>
   simp only [hs] at h
   simp only [vz, tyf, b236, (ix25 o225), e228, e229, e230, e231, e232, e233, e234, e235, nm, seval]
   refine kpan (args0 := [.lit (.bool (!r226)), .lit (.int .i64 1), .lit (.int .i64 c31_15)]) (by first | (simp only [nrm, tynrm] <;> rfl) | rfl) (by simp only [tre, tytre, Bool.and_self]) (g_sight_must_ok _ _ _ _ o238) ?_
   try simp only [vz, tyf, b236, (ix25 o225), e228, e229, e230, e231, e232, e233, e234, e235, nm, seval]
   refine opd_panicD ?_
   refine VDeferred.run mixed Tryz.call109 Tryz.func109 rfl (by kernel_rfl) ?_
   try simp only [vz, tyf, b236, (ix25 o225), nm, seval]
   refine dpost_normal Tryz.results109 ?_
   refine afterD_rec (x := (.tup [.agg (cGSightFault w240.SightFault), .lit (.bool true)])) (by first | (simp only [Tryz.results79, resV, resL, resV1, tgt_ptr, tgt_tp, uw, cr, tyf, b236, (ix25 o225), e228, e229, e230, e231, e232, e233, e234, e235, nm, seval] <;> rfl) | rfl) ?_
   replace h := kR31 _ h
   try dsimp only at h
   obtain rfl := kF _ h
   refine rr_tree ?_ ?_
   ·simp only [tre, tytre, Bool.and_self]
   ·first | (simp only [outV, uw, showV_ref, cr, tyf, nrm, tynrm, b236, (ix25 o225), e228, e229, e230, e231, e232, e233, e234, e235, nm, seval] <;> rfl) | rfl
end Go.V
end
section
namespace Go.V
open Go Go.Proofs
def g_sight_view_isRead (x0_v : Gsightview) : Option (Bool) := Option.bind (g_sight_view_firstFault x0_v) (fun r1 => some (!r1.2))
theorem g_sight_view_isRead_ok (x0_v : Gsightview) (R : Bool) (h : g_sight_view_isRead x0_v = some R) : VPure Tryz.prog G0 101 [.agg (cGsightview x0_v)] (.tree (.lit (.bool R))) := by
 refine VPure.runR mixed Tryz.call101 Tryz.func101 rfl (by simp [Tryz.ntmps101]; kernel_rfl) ?_
 obtain ⟨KF, h, kF, kN⟩ := fun_intro h
 simp only [g_sight_view_isRead] at h
 rcases o3 : (g_sight_view_firstFault x0_v) with _ | r2
 ·simp only [o3, hs] at h
  exact absurd h kN
 simp only [o3, hs] at h
 simp only [vz, tyf, nm, seval]
 refine ktree (args0 := [.agg (cGsightview x0_v)]) (by first | (simp only [nrm, tynrm] <;> rfl) | rfl) (by simp only [tre, tytre, Bool.and_self]) (g_sight_view_firstFault_ok _ _ o3) ?_
 refine fin_cut (fun tm => tm 7 = .tup [.agg (cGSightFault r2.1), .lit (.bool r2.2)] ∧ True) (by refine ⟨?_, trivial⟩ <;> first | (simp only [ua, nm, seval] <;> rfl) | rfl) ?_
 rintro tm ⟨e4, _⟩
 try simp only [vz, tyf, e4, nm, seval]
 obtain rfl := kF _ h
 exact opd_bool Tryz.results101 rfl
end Go.V
end
