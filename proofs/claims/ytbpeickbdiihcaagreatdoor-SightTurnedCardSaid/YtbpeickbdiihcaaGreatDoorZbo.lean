/- Part of a proof: a logic of values by content, lifted functions, what follows. -/
import Derived.Test.YtbpeickbdiihcaaGreatDoorZbf
import Derived.Test.YtbpeickbdiihcaaGreatDoorZbi
import Derived.Test.YtbpeickbdiihcaaGreatDoorZbk
import Derived.Test.YtbpeickbdiihcaaGreatDoorZbl
import Derived.Test.YtbpeickbdiihcaaGreatDoorZbg
import Derived.Test.YtbpeickbdiihcaaGreatDoorZbj
set_option linter.all false
set_option maxRecDepth 4000
set_option maxHeartbeats 4000000
section
namespace Go.V
open Go Go.Proofs
def g_sight_Why (x0_s : GSightStreet) (x1_board : Int) (x2_from : GSightPlace) : Option (GSightFault × Int) := Option.bind (g_sight_isView x0_s x1_board x2_from) (fun r1 => cond (r1) (Option.bind (getI x0_s.Boards x1_board) (fun x2 => Option.bind (g_sight_atWorst x0_s x2 x2_from) (fun r3 => Option.bind (g_sight_view_firstFault r3) (fun r4 => cond (r4.2) (some (r4.1, 0)) (some ((GSightFault.mk 0 0), 5)))))) (some ((GSightFault.mk 0 0), 2)))
theorem g_sight_Why_ok (x0_s : GSightStreet) (x1_board : Int) (x2_from : GSightPlace) (R : GSightFault × Int) (h : g_sight_Why x0_s x1_board x2_from = some R) : VPure Tryz.prog G0 26 [.agg (cGSightStreet x0_s), .lit (.int .i64 x1_board), .agg (cGSightPlace x2_from)] (.tree (.tup [.agg (cGSightFault R.1), .lit (.int .i64 R.2)])) := by
 refine VPure.runR mixed Tryz.call26 Tryz.func26 rfl (by simp [Tryz.ntmps26]; kernel_rfl) ?_
 obtain ⟨KF, h, kF, kN⟩ := fun_intro h
 simp only [g_sight_Why] at h
 cases o6 : (g_sight_isView x0_s x1_board x2_from) with
 | none =>
  simp only [o6, hs, reduceCtorEq] at h
  exact absurd h kN
 | some r5 =>
  simp only [o6, hs, reduceCtorEq] at h
  simp only [vz, tyf, nm, seval]
  refine ktree (args0 := [.agg (cGSightStreet x0_s), .lit (.int .i64 x1_board), .agg (cGSightPlace x2_from)]) (by first | (simp only [nrm, tynrm] <;> rfl) | rfl) (by simp only [tre, tytre, Bool.and_self]) (g_sight_isView_ok _ _ _ _ o6) ?_
  refine fin_cut (fun tm => tm 1 = .lit (.int .i64 x1_board) ∧ tm 3 = .ptr 0 0 ∧ tm 5 = .ptr 1 0 ∧ tm 6 = .ptr 2 0 ∧ tm 13 = .lit (.bool r5) ∧ True) (by refine ⟨?_, ?_, ?_, ?_, ?_, trivial⟩ <;> first | (simp only [ua, nm, seval] <;> rfl) | rfl) ?_
  rintro tm ⟨e7, e8, e9, e10, e11, _⟩
  cases d12 : (r5)
  ·simp only [d12, hs, reduceCtorEq] at h
   try simp only [vz, tyf, e7, e8, e9, e10, e11, d12, nm, seval]
   refine opd_ret (x := (.tup [.agg ([.lit (.int .i64 0)] ++ [.lit (.int .i64 0)]), .lit (.int .i64 2)])) (by first | (simp only [Tryz.results26, resV, resL, resV1, tgt_ptr, tgt_tp, uw, cr, tyf, e7, e8, e9, e10, e11, d12, nm, seval] <;> rfl) | rfl) ?_
   obtain rfl := kF _ h
   refine rr_tree ?_ ?_
   ·simp only [tre, tytre, Bool.and_self]
   ·first | (simp only [outV, uw, showV_ref, cr, tyf, nrm, tynrm, e7, e8, e9, e10, e11, d12, nm, seval] <;> rfl) | rfl
  simp only [d12, hs, reduceCtorEq] at h
  simp only [vz, tyf, e7, e8, e9, e10, e11, d12, nm, seval]
  refine cwp_drawTF (fun tm => tm 1 = .lit (.int .i64 x1_board) ∧ tm 3 = .ptr 0 0 ∧ tm 5 = .ptr 1 0 ∧ tm 6 = .ptr 2 0 ∧ True) (by refine ⟨e7, e8, e9, e10, trivial⟩ <;> first | (simp only [ua, e7, e8, e9, e10, e11, d12, nm, seval] <;> rfl) | rfl) ?_
  rintro tm ⟨e13, e14, e15, e16, _⟩
  cases o18 : (getI x0_s.Boards x1_board) with
  | none =>
   simp only [o18, hs, reduceCtorEq] at h
   exact absurd h kN
  | some x17 =>
   simp only [o18, hs, reduceCtorEq] at h
   cases o20 : (g_sight_atWorst x0_s x17 x2_from) with
   | none =>
    simp only [o20, hs, reduceCtorEq] at h
    exact absurd h kN
   | some r19 =>
    simp only [o20, hs, reduceCtorEq] at h
    simp only [vz, tyf, d12, e13, e14, e15, e16, (ix24 o18), nm, seval]
    refine dktree (args0 := [.agg (cGSightStreet x0_s), .agg (cGSightBoard x17), .agg (cGSightPlace x2_from)]) (by first | (simp only [nrm, tynrm] <;> rfl) | rfl) (by simp only [tre, tytre, Bool.and_self]) (g_sight_atWorst_ok _ _ _ _ o20) ?_
    refine fin_cut (fun tm => tm 6 = .ptr 2 0 ∧ tm 24 = .agg (cGsightview r19) ∧ True) (by refine ⟨e16, ?_, trivial⟩ <;> first | (simp only [ua, d12, e13, e14, e15, e16, nm, seval] <;> rfl) | rfl) ?_
    rintro tm ⟨e21, e22, _⟩
    cases o24 : (g_sight_view_firstFault r19) with
    | none =>
     simp only [o24, hs, reduceCtorEq] at h
     exact absurd h kN
    | some r23 =>
     simp only [o24, hs, reduceCtorEq] at h
     simp only [vz, tyf, d12, (ix24 o18), e21, e22, nm, seval]
     refine dktree (args0 := [.agg (cGsightview r19)]) (by first | (simp only [nrm, tynrm] <;> rfl) | rfl) (by simp only [tre, tytre, Bool.and_self]) (g_sight_view_firstFault_ok _ _ o24) ?_
     refine fin_cut (fun tm => tm 6 = .ptr 2 0 ∧ tm 25 = .tup [.agg (cGSightFault r23.1), .lit (.bool r23.2)] ∧ True) (by refine ⟨e21, ?_, trivial⟩ <;> first | (simp only [ua, d12, e21, e22, nm, seval] <;> rfl) | rfl) ?_
     rintro tm ⟨e25, e26, _⟩
     simp only [vz, tyf, d12, (ix24 o18), e25, e26, nm, seval]
     refine drawK_nil ⟨?_, ?_⟩
     ·simp only [traceR_cons, traceR_nil, hitK_quiet, hitK_nil, and_true, true_and]
      repeat' (first | exact trivial | refine And.intro ?_ ?_ | rw [hitK_quiet] | rw [hitK_cons] | exact Or.inl (by decide +kernel) | exact Or.inl (by dsimp only; decide +kernel) | (refine Or.inr ⟨?_, ?_⟩ <;> simp; done) | (refine Or.inr ⟨?_, ?_⟩ <;> simp <;> omega))
     cases d27 : (r23.2)
     ·simp only [d27, hs, reduceCtorEq] at h
      try simp only [vz, tyf, d12, (ix24 o18), e25, e26, d27, nm, seval]
      refine opd_ret (x := (.tup [.agg ([.lit (.int .i64 0)] ++ [.lit (.int .i64 0)]), .lit (.int .i64 5)])) (by first | (simp only [Tryz.results26, resV, resL, resV1, tgt_ptr, tgt_tp, uw, cr, tyf, d12, (ix24 o18), e25, e26, d27, nm, seval] <;> rfl) | rfl) ?_
      obtain rfl := kF _ h
      refine rr_tree ?_ ?_
      ·simp only [tre, tytre, Bool.and_self]
      ·first | (simp only [outV, uw, showV_ref, cr, tyf, nrm, tynrm, d12, (ix24 o18), e25, e26, d27, nm, seval] <;> rfl) | rfl
     simp only [d27, hs, reduceCtorEq] at h
     try simp only [vz, tyf, d12, (ix24 o18), e25, e26, d27, nm, seval]
     refine opd_ret (x := (.tup [.agg (cGSightFault r23.1), .lit (.int .i64 0)])) (by first | (simp only [Tryz.results26, resV, resL, resV1, tgt_ptr, tgt_tp, uw, cr, tyf, d12, (ix24 o18), e25, e26, d27, nm, seval] <;> rfl) | rfl) ?_
     obtain rfl := kF _ h
     refine rr_tree ?_ ?_
     ·simp only [tre, tytre, Bool.and_self]
     ·first | (simp only [outV, uw, showV_ref, cr, tyf, nrm, tynrm, d12, (ix24 o18), e25, e26, d27, nm, seval] <;> rfl) | rfl
end Go.V
end
section
namespace Go.V
open Go Go.Proofs
end Go.V
end
section
namespace Go.V
open Go
theorem Why_eq (s : GSightStreet) (n : Int) (p : GSightPlace) (h : FineS s) : (∃ b, getI s.Boards n = some b ∧ b ∈ s.Boards ∧ Good s b p ∧ streetB s = true ∧ numB s n = true ∧ placeB s p = true ∧ g_sight_Why s n p = some (match whyF (s.Eye.Low * s.Light.Low) b.At p s.Blocks b.Letters with | some f => (f, 0) | none => (⟨0, 0⟩, 5))) ∨ ((streetB s && (numB s n && placeB s p)) = false ∧ g_sight_Why s n p = some (⟨0, 0⟩, 2)) := by
 simp only [g_sight_Why, isView_eq s n p h, Option.bind_some]
 cases h1 : streetB s with
 | false => exact .inr ⟨rfl, rfl⟩
 | true =>
  cases h2 : numB s n with
  | false => exact .inr ⟨rfl, rfl⟩
  | true =>
   cases h3 : placeB s p with
   | false => exact .inr ⟨rfl, rfl⟩
   | true =>
    obtain ⟨b, b1, b2, b3⟩ := good_of h1 h2 h3
    refine .inl ⟨b, b1, b2, b3, rfl, rfl, rfl, ?_⟩
    obtain ⟨hp, hl, hk, w1, w2⟩ := goods b3
    have hfe := firstFault_eq ⟨s, p, b, s.Eye.Low * s.Light.Low⟩ hp w1 hl b3.n1 b3.n5 hk b3.nb
    simp only [Bool.and_self, cond_true, b1, Option.bind_some, g_sight_atWorst, pw_wrap w1, hfe]
    cases whyF (s.Eye.Low * s.Light.Low) b.At p s.Blocks b.Letters <;> rfl
end Go.V
end
section
namespace Go.V
def cmb : Option Bool → List Bool → Option (Option Bool)
  | st, [] => some st
  | none, x :: l => cmb (some x) l
  | some b, x :: l => cond (b == x) (cmb (some b) l) none
def ea : Option Bool → Bool | none => true | some b => b
def eo : Option Bool → Bool | none => false | some b => b
theorem cmb_append : ∀ (a b : List Bool) (st : Option Bool), cmb st (a ++ b) = match cmb st a with | some st' => cmb st' b | none => none
  | [], _, none => rfl
  | [], _, some _ => rfl
  | x :: a, b, none => cmb_append a b (some x)
  | x :: a, b, some y => by
    simp only [List.cons_append, cmb]
    cases y == x
    · rfl
    · exact cmb_append a b (some y)
def rowT (T : Int → Bool) : Nat → Int → List Bool
  | 0, _ => []
  | k + 1, c => T c :: rowT T k (c + 1)
def gridT (T : Int → Int → Bool) (n : Nat) : Nat → Int → List Bool
  | 0, _ => []
  | k + 1, c => rowT (T c) n 0 ++ gridT T n k (c + 1)
theorem mem_row {T : Int → Bool} {b : Bool} : ∀ (k : Nat) (c : Int), b ∈ rowT T k c ↔ ∃ i : Int, c ≤ i ∧ i < c + k ∧ b = T i
  | 0, c => by
    simp only [rowT, List.not_mem_nil, false_iff]
    rintro ⟨i, h1, h2, _⟩; omega
  | k + 1, c => by
    rw [rowT, List.mem_cons, mem_row k (c + 1)]
    constructor
    · rintro (rfl | ⟨i, h1, h2, h3⟩)
      · exact ⟨c, by omega, by omega, rfl⟩
      · exact ⟨i, by omega, by omega, h3⟩
    · rintro ⟨i, h1, h2, h3⟩
      by_cases hi : i = c
      · subst hi; exact .inl h3
      · exact .inr ⟨i, by omega, by omega, h3⟩
theorem mem_grid {T : Int → Int → Bool} {n : Nat} {b : Bool} : ∀ (k : Nat) (c : Int), b ∈ gridT T n k c ↔ ∃ i j : Int, c ≤ i ∧ i < c + k ∧ 0 ≤ j ∧ j < n ∧ b = T i j
  | 0, c => by
    simp only [gridT, List.not_mem_nil, false_iff]
    rintro ⟨i, j, h1, h2, _⟩; omega
  | k + 1, c => by
    rw [gridT, List.mem_append, mem_row, mem_grid k (c + 1)]
    constructor
    · rintro (⟨j, h1, h2, h3⟩ | ⟨i, j, h1, h2, h3⟩)
      · exact ⟨c, j, by omega, by omega, by omega, by omega, h3⟩
      · exact ⟨i, j, by omega, by omega, h3⟩
    · rintro ⟨i, j, h1, h2, h3, h4, h5⟩
      by_cases hi : i = c
      · subst hi; exact .inl ⟨j, h3, by omega, h5⟩
      · exact .inr ⟨i, j, by omega, by omega, h3, h4, h5⟩
def wordT (o : Option (Option Bool)) : Int := match o with | some (some true) => 3 | some none => 3 | some (some false) => 1 | none => 2
theorem cmb_some {x : Bool} : ∀ (l : List Bool), (∀ b ∈ l, b = x) → cmb (some x) l = some (some x)
  | [], _ => rfl
  | b :: l, h => by
    have hb := h b (List.mem_cons_self ..)
    subst hb
    simp only [cmb, beq_self_eq_true, cond_true]
    exact cmb_some l (fun c hc => h c (List.mem_cons_of_mem _ hc))
theorem cmb_none {x : Bool} : ∀ (l : List Bool), (!x) ∈ l → cmb (some x) l = none
  | [], h => by cases h
  | b :: l, h => by
    simp only [cmb]
    cases hx : x == b with
    | false => rfl
    | true =>
      have : x = b := by simpa using hx
      subst this
      rcases List.mem_cons.1 h with h | h
      · cases x <;> cases h
      · exact cmb_none l h
theorem word_grid {L : List Bool} {m M : Bool} (hm : m ∈ L) (hM : M ∈ L) (h1 : m = true → ∀ b ∈ L, b = true) (h2 : M = false → ∀ b ∈ L, b = false) : wordT (cmb none L) = cond m 3 (cond M 2 1) := by
  cases L with
  | nil => cases hm
  | cons x l =>
    simp only [cmb]
    cases m with
    | true =>
      have h := h1 rfl
      have hx := h x (List.mem_cons_self ..)
      subst hx
      rw [cmb_some l (fun b hb => h b (List.mem_cons_of_mem _ hb))]
      rfl
    | false =>
      cases M with
      | false =>
        have h := h2 rfl
        have hx := h x (List.mem_cons_self ..)
        subst hx
        rw [cmb_some l (fun b hb => h b (List.mem_cons_of_mem _ hb))]
        rfl
      | true =>
        have : (!x) ∈ l := by
          cases x with
          | true => rcases List.mem_cons.1 hm with h | h; · cases h
                    · exact h
          | false => rcases List.mem_cons.1 hM with h | h; · cases h
                     · exact h
        rw [cmb_none l this]
        rfl
end Go.V
end
section
namespace Go.V
open Go Go.Proofs
def g_sight_Letters_l2 (r3 : Gsightview) (c0_28 : Int) (c1_20 : Int) : Nat → Int → Bool → Bool → Int → Option (LOut (Int) (Bool × Bool × Int))
 | 0, c2_33, c2_5, c2_6, c2_o0 => some (.go (c2_5, c2_6, c2_o0))
 | k2 + 1, c2_33, c2_5, c2_6, c2_o0 => Option.bind (g_sight_view_isLegible (Gsightview.mk r3.SightStreet r3.SightPlace r3.board (IntKind.i64.wrap ((IntKind.i64.wrap (r3.SightStreet.Eye.Low + c1_20)) * (IntKind.i64.wrap (r3.SightStreet.Light.Low + c2_33))))) c0_28) (fun r9 => cond (c2_5) (cond (c2_6) (cond (r9) (g_sight_Letters_l2 r3 c0_28 c1_20 k2 (c2_33 + 1) true true (IntKind.i64.wrap ((IntKind.i64.wrap (r3.SightStreet.Eye.Low + c1_20)) * (IntKind.i64.wrap (r3.SightStreet.Light.Low + c2_33))))) (some (.brk 0 (false, true, IntKind.i64.wrap ((IntKind.i64.wrap (r3.SightStreet.Eye.Low + c1_20)) * (IntKind.i64.wrap (r3.SightStreet.Light.Low + c2_33))))))) (cond (r9) (g_sight_Letters_l2 r3 c0_28 c1_20 k2 (c2_33 + 1) true true (IntKind.i64.wrap ((IntKind.i64.wrap (r3.SightStreet.Eye.Low + c1_20)) * (IntKind.i64.wrap (r3.SightStreet.Light.Low + c2_33))))) (g_sight_Letters_l2 r3 c0_28 c1_20 k2 (c2_33 + 1) false false (IntKind.i64.wrap ((IntKind.i64.wrap (r3.SightStreet.Eye.Low + c1_20)) * (IntKind.i64.wrap (r3.SightStreet.Light.Low + c2_33))))))) (cond (c2_6) (some (.brk 0 (false, true, IntKind.i64.wrap ((IntKind.i64.wrap (r3.SightStreet.Eye.Low + c1_20)) * (IntKind.i64.wrap (r3.SightStreet.Light.Low + c2_33)))))) (cond (r9) (some (.brk 0 (false, true, IntKind.i64.wrap ((IntKind.i64.wrap (r3.SightStreet.Eye.Low + c1_20)) * (IntKind.i64.wrap (r3.SightStreet.Light.Low + c2_33)))))) (g_sight_Letters_l2 r3 c0_28 c1_20 k2 (c2_33 + 1) false false (IntKind.i64.wrap ((IntKind.i64.wrap (r3.SightStreet.Eye.Low + c1_20)) * (IntKind.i64.wrap (r3.SightStreet.Light.Low + c2_33))))))))
def g_sight_Letters_l1 (r3 : Gsightview) (c0_28 : Int) : Nat → Int → Bool → Bool → Int → Option (LOut (Int) (Bool × Bool × Int))
 | 0, c1_20, c1_5, c1_6, c1_o0 => some (.go (c1_5, c1_6, c1_o0))
 | k1 + 1, c1_20, c1_5, c1_6, c1_o0 => cond (boundOk (IntKind.i64.wrap ((IntKind.i64.wrap (r3.SightStreet.Light.High - r3.SightStreet.Light.Low)) + 1))) (lbind (g_sight_Letters_l2 r3 c0_28 c1_20 (Int.toNat ((IntKind.i64.wrap ((IntKind.i64.wrap (r3.SightStreet.Light.High - r3.SightStreet.Light.Low)) + 1)) - 0)) 0 c1_5 c1_6 c1_o0) (fun r11 => some (.ret r11)) (fun c10 => g_sight_Letters_l1 r3 c0_28 k1 (c1_20 + 1) c10.1 c10.2.1 c10.2.2) (fun _ c12 => some (.go (c12.1, c12.2.1, c12.2.2)))) none
def g_sight_Letters_l0 (r3 : Gsightview) : List GSightLetter → Int → (List Int) → Option (LOut ((List Int) × Int) ((List Int)))
 | [], c0_28, c0_9 => some (.go c0_9)
 | e0 :: p0, c0_28, c0_9 => cond (boundOk (IntKind.i64.wrap ((IntKind.i64.wrap (r3.SightStreet.Eye.High - r3.SightStreet.Eye.Low)) + 1))) (lbind (g_sight_Letters_l1 r3 c0_28 (Int.toNat ((IntKind.i64.wrap ((IntKind.i64.wrap (r3.SightStreet.Eye.High - r3.SightStreet.Eye.Low)) + 1)) - 0)) 0 true false r3.power) (fun r14 => cond (roomOk 8 (List.length (c0_9 ++ [r14]))) (g_sight_Letters_l0 r3 p0 (c0_28 + 1) (c0_9 ++ [r14])) none) (fun c13 => cond (c13.1) (cond (roomOk 8 (List.length (c0_9 ++ [3]))) (g_sight_Letters_l0 r3 p0 (c0_28 + 1) (c0_9 ++ [3])) none) (cond (c13.2.1) (cond (roomOk 8 (List.length (c0_9 ++ [2]))) (g_sight_Letters_l0 r3 p0 (c0_28 + 1) (c0_9 ++ [2])) none) (cond (roomOk 8 (List.length (c0_9 ++ [1]))) (g_sight_Letters_l0 r3 p0 (c0_28 + 1) (c0_9 ++ [1])) none))) (fun _ _ => none)) none
def g_sight_Letters (x0_s : GSightStreet) (x1_board : Int) (x2_from : GSightPlace) : Option ((List Int) × Int) := Option.bind (g_sight_isView x0_s x1_board x2_from) (fun r1 => cond (r1) (Option.bind (getI x0_s.Boards x1_board) (fun x2 => Option.bind (g_sight_atWorst x0_s x2 x2_from) (fun r3 => cond (lenOk r3.board.Letters) (lbind (g_sight_Letters_l0 r3 r3.board.Letters 0 ([] : List Int)) (fun r16 => some r16) (fun c15 => some (c15, 0)) (fun _ _ => none)) none))) (some (([] : List Int), 2)))
end Go.V
end
section
namespace Go.V
open Go Go.Proofs
def g_sight_Melts_l2 (r3 : Gsightview) (c0_29 : Int) (c1_20 : Int) : Nat → Int → Bool → Bool → Int → Option (LOut (Int) (Bool × Bool × Int))
 | 0, c2_33, c2_5, c2_6, c2_o0 => some (.go (c2_5, c2_6, c2_o0))
 | k2 + 1, c2_33, c2_5, c2_6, c2_o0 => Option.bind (g_sight_view_isApart (Gsightview.mk r3.SightStreet r3.SightPlace r3.board (IntKind.i64.wrap ((IntKind.i64.wrap (r3.SightStreet.Eye.Low + c1_20)) * (IntKind.i64.wrap (r3.SightStreet.Light.Low + c2_33))))) c0_29) (fun r9 => cond (c2_5) (cond (c2_6) (cond (r9) (some (.brk 0 (false, true, IntKind.i64.wrap ((IntKind.i64.wrap (r3.SightStreet.Eye.Low + c1_20)) * (IntKind.i64.wrap (r3.SightStreet.Light.Low + c2_33)))))) (g_sight_Melts_l2 r3 c0_29 c1_20 k2 (c2_33 + 1) true true (IntKind.i64.wrap ((IntKind.i64.wrap (r3.SightStreet.Eye.Low + c1_20)) * (IntKind.i64.wrap (r3.SightStreet.Light.Low + c2_33)))))) (cond (r9) (g_sight_Melts_l2 r3 c0_29 c1_20 k2 (c2_33 + 1) false false (IntKind.i64.wrap ((IntKind.i64.wrap (r3.SightStreet.Eye.Low + c1_20)) * (IntKind.i64.wrap (r3.SightStreet.Light.Low + c2_33))))) (g_sight_Melts_l2 r3 c0_29 c1_20 k2 (c2_33 + 1) true true (IntKind.i64.wrap ((IntKind.i64.wrap (r3.SightStreet.Eye.Low + c1_20)) * (IntKind.i64.wrap (r3.SightStreet.Light.Low + c2_33))))))) (cond (c2_6) (some (.brk 0 (false, true, IntKind.i64.wrap ((IntKind.i64.wrap (r3.SightStreet.Eye.Low + c1_20)) * (IntKind.i64.wrap (r3.SightStreet.Light.Low + c2_33)))))) (cond (r9) (g_sight_Melts_l2 r3 c0_29 c1_20 k2 (c2_33 + 1) false false (IntKind.i64.wrap ((IntKind.i64.wrap (r3.SightStreet.Eye.Low + c1_20)) * (IntKind.i64.wrap (r3.SightStreet.Light.Low + c2_33))))) (some (.brk 0 (false, true, IntKind.i64.wrap ((IntKind.i64.wrap (r3.SightStreet.Eye.Low + c1_20)) * (IntKind.i64.wrap (r3.SightStreet.Light.Low + c2_33)))))))))
def g_sight_Melts_l1 (r3 : Gsightview) (c0_29 : Int) : Nat → Int → Bool → Bool → Int → Option (LOut (Int) (Bool × Bool × Int))
 | 0, c1_20, c1_5, c1_6, c1_o0 => some (.go (c1_5, c1_6, c1_o0))
 | k1 + 1, c1_20, c1_5, c1_6, c1_o0 => cond (boundOk (IntKind.i64.wrap ((IntKind.i64.wrap (r3.SightStreet.Light.High - r3.SightStreet.Light.Low)) + 1))) (lbind (g_sight_Melts_l2 r3 c0_29 c1_20 (Int.toNat ((IntKind.i64.wrap ((IntKind.i64.wrap (r3.SightStreet.Light.High - r3.SightStreet.Light.Low)) + 1)) - 0)) 0 c1_5 c1_6 c1_o0) (fun r11 => some (.ret r11)) (fun c10 => g_sight_Melts_l1 r3 c0_29 k1 (c1_20 + 1) c10.1 c10.2.1 c10.2.2) (fun _ c12 => some (.go (c12.1, c12.2.1, c12.2.2)))) none
def g_sight_Melts_l0 (r3 : Gsightview) : Nat → Int → (List Int) → Option (LOut ((List Int) × Int) ((List Int)))
 | 0, c0_29, c0_9 => some (.go c0_9)
 | k0 + 1, c0_29, c0_9 => cond (boundOk (IntKind.i64.wrap ((IntKind.i64.wrap (r3.SightStreet.Eye.High - r3.SightStreet.Eye.Low)) + 1))) (lbind (g_sight_Melts_l1 r3 c0_29 (Int.toNat ((IntKind.i64.wrap ((IntKind.i64.wrap (r3.SightStreet.Eye.High - r3.SightStreet.Eye.Low)) + 1)) - 0)) 0 true false r3.power) (fun r14 => cond (roomOk 8 (List.length (c0_9 ++ [r14]))) (g_sight_Melts_l0 r3 k0 (c0_29 + 1) (c0_9 ++ [r14])) none) (fun c13 => cond (c13.1) (cond (roomOk 8 (List.length (c0_9 ++ [3]))) (g_sight_Melts_l0 r3 k0 (c0_29 + 1) (c0_9 ++ [3])) none) (cond (c13.2.1) (cond (roomOk 8 (List.length (c0_9 ++ [2]))) (g_sight_Melts_l0 r3 k0 (c0_29 + 1) (c0_9 ++ [2])) none) (cond (roomOk 8 (List.length (c0_9 ++ [1]))) (g_sight_Melts_l0 r3 k0 (c0_29 + 1) (c0_9 ++ [1])) none))) (fun _ _ => none)) none
def g_sight_Melts (x0_s : GSightStreet) (x1_board : Int) (x2_from : GSightPlace) : Option ((List Int) × Int) := Option.bind (g_sight_isView x0_s x1_board x2_from) (fun r1 => cond (r1) (Option.bind (getI x0_s.Boards x1_board) (fun x2 => Option.bind (g_sight_atWorst x0_s x2 x2_from) (fun r3 => cond (boundOk (IntKind.i64.wrap ((List.length r3.board.Letters : Int) - 1))) (lbind (g_sight_Melts_l0 r3 (Int.toNat ((IntKind.i64.wrap ((List.length r3.board.Letters : Int) - 1)) - 0)) 0 ([] : List Int)) (fun r16 => some r16) (fun c15 => some (c15, 0)) (fun _ _ => none)) none))) (some (([] : List Int), 2)))
end Go.V
end
section
namespace Go.V
open Go Go.Proofs
def g_sight_Hidden_l0 (r3 : Gsightview) : List GSightBlock → Int → (List Int) → Option (LOut ((List Int) × Int) ((List Int)))
 | [], c0_29, c0_9 => some (.go c0_9)
 | e0 :: p0, c0_29, c0_9 => Option.bind (g_sight_view_isBehind r3 e0) (fun r4 => cond (r4) (cond (roomOk 8 (List.length (c0_9 ++ [c0_29]))) (g_sight_Hidden_l0 r3 p0 (c0_29 + 1) (c0_9 ++ [c0_29])) none) (g_sight_Hidden_l0 r3 p0 (c0_29 + 1) c0_9))
def g_sight_Hidden (x0_s : GSightStreet) (x1_board : Int) (x2_from : GSightPlace) : Option ((List Int) × Int) := Option.bind (g_sight_isView x0_s x1_board x2_from) (fun r1 => cond (r1) (Option.bind (getI x0_s.Boards x1_board) (fun x2 => Option.bind (g_sight_atWorst x0_s x2 x2_from) (fun r3 => cond (lenOk r3.SightStreet.Blocks) (lbind (g_sight_Hidden_l0 r3 r3.SightStreet.Blocks 0 ([] : List Int)) (fun r6 => some r6) (fun c5 => some (c5, 0)) (fun _ _ => none)) none))) (some (([] : List Int), 2)))
theorem g_sight_Hidden_ok (x0_s : GSightStreet) (x1_board : Int) (x2_from : GSightPlace) (R : (List Int) × Int) (h : g_sight_Hidden x0_s x1_board x2_from = some R) : VPure Tryz.prog G0 30 [.agg (cGSightStreet x0_s), .lit (.int .i64 x1_board), .agg (cGSightPlace x2_from)] (.tree (.tup [.sl (cellsL eI R.1) (List.length R.1) false, .lit (.int .i64 R.2)])) := by
 refine VPure.runR mixed Tryz.call30 Tryz.func30 rfl (by simp [Tryz.ntmps30]; kernel_rfl) ?_
 obtain ⟨KF, h, kF, kN⟩ := fun_intro h
 simp only [g_sight_Hidden] at h
 cases o8 : (g_sight_isView x0_s x1_board x2_from) with
 | none =>
  simp only [o8, hs, reduceCtorEq] at h
  exact absurd h kN
 | some r7 =>
  simp only [o8, hs, reduceCtorEq] at h
  simp only [vz, tyf, nm, seval]
  refine ktree (args0 := [.agg (cGSightStreet x0_s), .lit (.int .i64 x1_board), .agg (cGSightPlace x2_from)]) (by first | (simp only [nrm, tynrm] <;> rfl) | rfl) (by simp only [tre, tytre, Bool.and_self]) (g_sight_isView_ok _ _ _ _ o8) ?_
  refine fin_cut (fun tm => tm 1 = .lit (.int .i64 x1_board) ∧ tm 3 = .ptr 0 0 ∧ tm 5 = .ptr 1 0 ∧ tm 15 = .lit (.bool r7) ∧ True) (by refine ⟨?_, ?_, ?_, ?_, trivial⟩ <;> first | (simp only [ua, nm, seval] <;> rfl) | rfl) ?_
  rintro tm ⟨e9, e10, e11, e12, _⟩
  cases d13 : (r7)
  ·simp only [d13, hs, reduceCtorEq] at h
   try simp only [vz, tyf, e9, e10, e11, e12, d13, nm, seval]
   refine opd_ret (x := (.tup [.lit (.slice none 0 0), .lit (.int .i64 2)])) (by first | (simp only [Tryz.results30, resV, resL, resV1, tgt_ptr, tgt_tp, uw, cr, tyf, d13, nm, seval] <;> rfl) | rfl) ?_
   obtain rfl := kF _ h
   refine rr_tree ?_ ?_
   ·simp only [tre, tytre, Bool.and_self]
   ·first | (simp only [outV, uw, showV_ref, cr, tyf, nrm, tynrm, e9, e10, e11, e12, d13, nm, seval] <;> rfl) | rfl
  simp only [d13, hs, reduceCtorEq] at h
  simp only [vz, tyf, e9, e10, e11, e12, d13, nm, seval]
  refine cwp_drawTF (fun tm => tm 1 = .lit (.int .i64 x1_board) ∧ tm 3 = .ptr 0 0 ∧ tm 5 = .ptr 1 0 ∧ True) (by refine ⟨e9, e10, e11, trivial⟩ <;> first | (simp only [ua, e9, e10, e11, e12, d13, nm, seval] <;> rfl) | rfl) ?_
  rintro tm ⟨e14, e15, e16, _⟩
  cases o18 : (getI x0_s.Boards x1_board) with
  | none =>
   simp only [o18, hs, reduceCtorEq] at h
   exact absurd h kN
  | some x17 =>
   simp only [o18, hs, reduceCtorEq] at h
   cases o20 : (g_sight_atWorst x0_s x17 x2_from) with
   | none =>
    simp only [o20, hs, reduceCtorEq] at h
    exact absurd h kN
   | some r19 =>
    simp only [o20, hs, reduceCtorEq] at h
    simp only [vz, tyf, d13, e14, e15, e16, (ix24 o18), nm, seval]
    refine dktree (args0 := [.agg (cGSightStreet x0_s), .agg (cGSightBoard x17), .agg (cGSightPlace x2_from)]) (by first | (simp only [nrm, tynrm] <;> rfl) | rfl) (by simp only [tre, tytre, Bool.and_self]) (g_sight_atWorst_ok _ _ _ _ o20) ?_
    refine fin_cut (fun tm => tm 24 = .agg (cGsightview r19) ∧ True) (by refine ⟨?_, trivial⟩ <;> first | (simp only [ua, d13, e14, e15, e16, nm, seval] <;> rfl) | rfl) ?_
    rintro tm ⟨e21, _⟩
    simp only [vz, tyf, d13, (ix24 o18), e21, nm, seval]
    refine drawK_nil ⟨?_, ?_⟩
    ·simp only [traceR_cons, traceR_nil, hitK_quiet, hitK_nil, and_true, true_and]
     repeat' (first | exact trivial | refine And.intro ?_ ?_ | rw [hitK_quiet] | rw [hitK_cons] | exact Or.inl (by decide +kernel) | exact Or.inl (by dsimp only; decide +kernel) | (refine Or.inr ⟨?_, ?_⟩ <;> simp; done) | (refine Or.inr ⟨?_, ?_⟩ <;> simp <;> omega))
    cases g23 : (lenOk r19.SightStreet.Blocks)
    ·simp only [g23, hs, reduceCtorEq] at h
     exact absurd h kN
    simp only [g23, hs, reduceCtorEq] at h
    simp only [vz, tyf, d13, (ix24 o18), e21, g23, nm, seval]
    obtain ⟨K22, h, kR22, kG22, kB22, kN22⟩ := lbind_intro h kN
    obtain ⟨f22, hf22, h⟩ := call3 h
    obtain ⟨I22, hI22⟩ : ∃ I : Nat → St → Prop, I = (fun m st => ∃ (p22 : List GSightBlock) (c22_29 : Int) (c22_9 : List Int) (y22_0 : VV), m = List.length p22 ∧ 0 ≤ c22_29 ∧ List.drop (Int.toNat c22_29) r19.SightStreet.Blocks = p22 ∧ st.df = [] ∧ 25 ≤ st.nx ∧ st.H 17 = some (.cells (some 97) (cGsightview r19)) ∧ st.tm 8 = .ptr 17 0 ∧ st.tm 27 = .sl (cellsL cGSightBlock r19.SightStreet.Blocks) (List.length r19.SightStreet.Blocks) false ∧ st.tm 28 = .lit (.int .i64 (List.length r19.SightStreet.Blocks : Int)) ∧ st.tm 9 = y22_0 ∧ st.tm 29 = .lit (.int .i64 c22_29) ∧ ((∃ (β : Nat) (el : Option TypeId), y22_0 = .ref β 0 (List.length c22_9) 1 (List.length c22_9) ∧ β < st.nx ∧ β ≠ 17 ∧ st.H β = some (.cells el (cellsL eI c22_9))) ∨ (y22_0 = .lit (.slice none 0 0) ∧ c22_9 = [])) ∧ K22 (f22 p22 c22_29 c22_9)) := ⟨_, rfl⟩
    refine loopK mixed (by kernel_rfl) I22 (List.length r19.SightStreet.Blocks) (by rw [hI22]; refine ⟨r19.SightStreet.Blocks, 0, ([] : List Int), .lit (.slice none 0 0), rfl, Int.le_refl _, rfl, rfl, (show 25 ≤ 25 by omega), ?_, ?_, ?_, ?_, ?_, ?_, Or.inr ⟨rfl, rfl⟩, h⟩ <;> first | (simp only [ua, d13, e21, nm, seval] <;> rfl) | rfl) ?_
    rintro m ⟨tm, H, nx22, df⟩ hinv
    rw [hI22] at hinv
    obtain ⟨p22, c22_29, c22_9, y22_0, rfl, hi22, hp22, hdf, hn22, H24, e25, e26, e27, e28, e29, ow22_0, h⟩ := hinv
    simp only at hdf hn22 H24 e25 e26 e27 e28 e29 ow22_0
    have n30 := base_ne0 (m := 25) (b := nx22) (by omega)
    subst hdf hf22
    rcases ow22_0 with ⟨b22_0, el22_0, rfl, lq32, lq33, H31⟩ | ⟨rfl, rfl⟩
    ·have q32 := own_lt lq32
     have q33 := ne_f lq33
     cases p22 with
     | nil =>
      have d34 : (decide (c22_29 < (List.length r19.SightStreet.Blocks : Int))) = false := not_lt_of_drop hi22 hp22
      simp only [g_sight_Hidden_l0, hs, reduceCtorEq] at h
      replace h := kG22 _ h
      try dsimp only at h
      try simp only [hs] at h
      try simp only [vz, tyf, d13, (ix24 o18), g23, n30, e25, e26, e27, e28, e29, H24, q32, H31, q33, d34, nm, seval]
      refine opd_ret (x := (.tup [.ref b22_0 0 (List.length c22_9) 1 (List.length c22_9), .lit (.int .i64 0)])) (by first | (simp only [Tryz.results30, resV, resL, resV1, tgt_ptr, tgt_tp, uw, cr, tyf, d13, (ix24 o18), g23, n30, H24, q32, H31, q33, d34, nm, seval] <;> rfl) | rfl) ?_
      obtain rfl := kF _ h
      refine rr_tree ?_ ?_
      ·simp only [tre, tytre, Bool.and_self]
      ·first | (simp only [outV, uw, showV_ref, cr, tyf, nrm, tynrm, d13, (ix24 o18), g23, n30, e25, e26, e27, e28, e29, H24, q32, H31, q33, d34, nm, seval] <;> rfl) | rfl
     | cons e22 p22 =>
      have d35 : (decide (c22_29 < (List.length r19.SightStreet.Blocks : Int))) = true := lt_of_drop hi22 hp22
      have o37 := getI_of_drop hi22 hp22
      have w36 := wrap_next hi22 hp22 g23
      simp only [g_sight_Hidden_l0, hs, reduceCtorEq] at h
      cases o39 : (g_sight_view_isBehind r19 e22) with
      | none =>
       simp only [o39, hs, reduceCtorEq] at h
       exact absurd h kN22
      | some r38 =>
       simp only [o39, hs, reduceCtorEq] at h
       simp only [vz, tyf, d13, (ix24 o18), g23, n30, e25, e26, e27, e28, e29, H24, q32, H31, q33, d35, (ix25 o37), w36, nm, seval]
       refine ktree (args0 := [.agg (cGsightview r19), .agg (cGSightBlock e22)]) (by first | (simp only [nrm, tynrm] <;> rfl) | rfl) (by simp only [tre, tytre, Bool.and_self]) (g_sight_view_isBehind_ok _ _ _ o39) ?_
       refine fin_cut (fun tm => tm 8 = .ptr 17 0 ∧ tm 9 = .ref b22_0 0 (List.length c22_9) 1 (List.length c22_9) ∧ tm 10 = .lit (.int .i64 c22_29) ∧ tm 27 = .sl (cellsL cGSightBlock r19.SightStreet.Blocks) (List.length r19.SightStreet.Blocks) false ∧ tm 28 = .lit (.int .i64 (List.length r19.SightStreet.Blocks : Int)) ∧ tm 29 = .lit (.int .i64 c22_29) ∧ tm 36 = .lit (.bool r38) ∧ True) (by refine ⟨e25, e28, ?_, e26, e27, e29, ?_, trivial⟩ <;> first | (simp only [ua, d13, n30, e25, e26, e27, e28, e29, H24, q32, H31, q33, d35, w36, nm, seval] <;> rfl) | rfl) ?_
       rintro tm ⟨e40, e41, e42, e43, e44, e45, e46, _⟩
       cases d47 : (r38)
       ·simp only [d47, hs, reduceCtorEq] at h
        simp only [vz, tyf, d13, (ix24 o18), g23, n30, H24, q32, H31, q33, d35, (ix25 o37), w36, e40, e41, e42, e43, e44, e45, e46, d47, nm, seval]
        exact ⟨List.length p22, Nat.lt_succ_self _, by rw [hI22]; refine ⟨p22, c22_29 + 1, c22_9, .ref b22_0 0 (List.length c22_9) 1 (List.length c22_9), rfl, Int.le_trans hi22 (Int.le_add_one (Int.le_refl _)), drop_next hi22 hp22, rfl, (show 25 ≤ nx22 + 12 by omega), ?_, e40, e43, e44, ?_, ?_, Or.inl ⟨b22_0, el22_0, rfl, (by first | omega | (simp only [nm, seval]; omega)), (by first | omega | (intro hh; simp only [n30, q32, q33, reduceCtorEq] at hh)), ?_⟩, h⟩ <;> first | (simp only [ua, d13, n30, H24, q32, H31, q33, d35, w36, e40, e41, e42, e43, e44, e45, e46, d47, nm, seval] <;> rfl) | rfl⟩
       simp only [d47, hs, reduceCtorEq] at h
       cases g48 : (roomOk 8 (List.length (c22_9 ++ [c22_29])))
       ·simp only [g48, hs, reduceCtorEq] at h
        exact absurd h kN22
       simp only [g48, hs, reduceCtorEq] at h
       simp only [vz, tyf, d13, (ix24 o18), g23, n30, H24, q32, H31, q33, d35, (ix25 o37), w36, e40, e41, e42, e43, e44, e45, e46, d47, g48, nm, seval]
       refine k_app (w := 1) (enc := eI) (xs := c22_9) (ys := ([c22_29])) (el := el22_0) (el2 := (some 3)) (fun _ => rfl) lf57 ao57 Tryz.underlying57 (by first | rfl | assumption | (simp only [updH_apply, without_apply, et57, n30, H24, q32, H31, q33, nm, seval] <;> rfl) | (simp only [updH_apply, without_apply, cellsL_cons, cellsL_nil, mV_app, mV_app0, tyf, d13, (ix24 o18), g23, n30, H24, q32, H31, q33, d35, (ix25 o37), w36, e40, e41, e42, e43, e44, e45, e46, d47, g48, nm, seval]; done)) (by first | rfl | assumption | (simp only [updH_apply, without_apply, et57, n30, H24, q32, H31, q33, nm, seval] <;> rfl) | (simp only [updH_apply, without_apply, cellsL_cons, cellsL_nil, mV_app, mV_app0, tyf, d13, (ix24 o18), g23, n30, H24, q32, H31, q33, d35, (ix25 o37), w36, e40, e41, e42, e43, e44, e45, e46, d47, g48, nm, seval]; done)) (Nat.zero_lt_succ _) g48 ?_
       simp only [vz, tyf, d13, (ix24 o18), g23, n30, H24, q32, H31, q33, d35, (ix25 o37), w36, e40, e41, e42, e43, e44, e45, e46, d47, g48, nm, seval]
       exact ⟨List.length p22, Nat.lt_succ_self _, by rw [hI22]; refine ⟨p22, c22_29 + 1, (c22_9 ++ [c22_29]), .ref (nx22 + 13) 0 (List.length (c22_9 ++ [c22_29])) 1 (List.length (c22_9 ++ [c22_29])), rfl, Int.le_trans hi22 (Int.le_add_one (Int.le_refl _)), drop_next hi22 hp22, rfl, (show 25 ≤ nx22 + 17 by omega), ?_, e40, e43, e44, ?_, ?_, Or.inl ⟨nx22 + 13, (sameEl el22_0 3), rfl, (by first | omega | (simp only [nm, seval]; omega)), (by first | omega | (intro hh; simp only [n30, q32, q33, reduceCtorEq] at hh)), ?_⟩, h⟩ <;> first | (simp only [ua, d13, n30, H24, q32, H31, q33, d35, w36, e40, e41, e42, e43, e44, e45, e46, d47, nm, seval] <;> rfl) | rfl⟩
    ·cases p22 with
     | nil =>
      have d49 : (decide (c22_29 < (List.length r19.SightStreet.Blocks : Int))) = false := not_lt_of_drop hi22 hp22
      simp only [g_sight_Hidden_l0, hs, reduceCtorEq] at h
      replace h := kG22 _ h
      try dsimp only at h
      try simp only [hs] at h
      try simp only [vz, tyf, d13, (ix24 o18), g23, n30, e25, e26, e27, e28, e29, H24, d49, nm, seval]
      refine opd_ret (x := (.tup [.lit (.slice none 0 0), .lit (.int .i64 0)])) (by first | (simp only [Tryz.results30, resV, resL, resV1, tgt_ptr, tgt_tp, uw, cr, tyf, d13, (ix24 o18), g23, n30, H24, d49, nm, seval] <;> rfl) | rfl) ?_
      obtain rfl := kF _ h
      refine rr_tree ?_ ?_
      ·simp only [tre, tytre, Bool.and_self]
      ·first | (simp only [outV, uw, showV_ref, cr, tyf, nrm, tynrm, d13, (ix24 o18), g23, n30, e25, e26, e27, e28, e29, H24, d49, nm, seval] <;> rfl) | rfl
     | cons e22 p22 =>
      have d50 : (decide (c22_29 < (List.length r19.SightStreet.Blocks : Int))) = true := lt_of_drop hi22 hp22
      have o52 := getI_of_drop hi22 hp22
      have w51 := wrap_next hi22 hp22 g23
      simp only [g_sight_Hidden_l0, hs, reduceCtorEq] at h
      cases o54 : (g_sight_view_isBehind r19 e22) with
      | none =>
       simp only [o54, hs, reduceCtorEq] at h
       exact absurd h kN22
      | some r53 =>
       simp only [o54, hs, reduceCtorEq] at h
       simp only [vz, tyf, d13, (ix24 o18), g23, n30, e25, e26, e27, e28, e29, H24, d50, (ix25 o52), w51, nm, seval]
       refine ktree (args0 := [.agg (cGsightview r19), .agg (cGSightBlock e22)]) (by first | (simp only [nrm, tynrm] <;> rfl) | rfl) (by simp only [tre, tytre, Bool.and_self]) (g_sight_view_isBehind_ok _ _ _ o54) ?_
       refine fin_cut (fun tm => tm 8 = .ptr 17 0 ∧ tm 9 = .lit (.slice none 0 0) ∧ tm 10 = .lit (.int .i64 c22_29) ∧ tm 27 = .sl (cellsL cGSightBlock r19.SightStreet.Blocks) (List.length r19.SightStreet.Blocks) false ∧ tm 28 = .lit (.int .i64 (List.length r19.SightStreet.Blocks : Int)) ∧ tm 29 = .lit (.int .i64 c22_29) ∧ tm 36 = .lit (.bool r53) ∧ True) (by refine ⟨e25, e28, ?_, e26, e27, e29, ?_, trivial⟩ <;> first | (simp only [ua, d13, n30, e25, e26, e27, e28, e29, H24, d50, w51, nm, seval] <;> rfl) | rfl) ?_
       rintro tm ⟨e55, e56, e57, e58, e59, e60, e61, _⟩
       cases d62 : (r53)
       ·simp only [d62, hs, reduceCtorEq] at h
        simp only [vz, tyf, d13, (ix24 o18), g23, n30, H24, d50, (ix25 o52), w51, e55, e56, e57, e58, e59, e60, e61, d62, nm, seval]
        exact ⟨List.length p22, Nat.lt_succ_self _, by rw [hI22]; refine ⟨p22, c22_29 + 1, ([] : List Int), .lit (.slice none 0 0), rfl, Int.le_trans hi22 (Int.le_add_one (Int.le_refl _)), drop_next hi22 hp22, rfl, (show 25 ≤ nx22 + 12 by omega), ?_, e55, e58, e59, ?_, ?_, Or.inr ⟨rfl, rfl⟩, h⟩ <;> first | (simp only [ua, d13, n30, H24, d50, w51, e55, e56, e57, e58, e59, e60, e61, d62, nm, seval] <;> rfl) | rfl⟩
       simp only [d62, hs, reduceCtorEq] at h
       cases g63 : (roomOk 8 (List.length (([] : List Int) ++ [c22_29])))
       ·simp only [g63, hs, reduceCtorEq] at h
        exact absurd h kN22
       simp only [g63, hs, reduceCtorEq] at h
       simp only [vz, tyf, d13, (ix24 o18), g23, n30, H24, d50, (ix25 o52), w51, e55, e56, e57, e58, e59, e60, e61, d62, g63, nm, seval]
       refine k_appN (w := 1) (enc := eI) (ys := ([c22_29])) (el2 := (some 3)) (fun _ => rfl) lf57 ao57 Tryz.underlying57 (by first | rfl | assumption | (simp only [updH_apply, without_apply, et57, n30, H24, nm, seval] <;> rfl) | (simp only [updH_apply, without_apply, cellsL_cons, cellsL_nil, mV_app, mV_app0, tyf, d13, (ix24 o18), g23, n30, H24, d50, (ix25 o52), w51, e55, e56, e57, e58, e59, e60, e61, d62, g63, nm, seval]; done)) (Nat.zero_lt_succ _) g63 ?_
       simp only [vz, tyf, d13, (ix24 o18), g23, n30, H24, d50, (ix25 o52), w51, e55, e56, e57, e58, e59, e60, e61, d62, g63, nm, seval]
       exact ⟨List.length p22, Nat.lt_succ_self _, by rw [hI22]; refine ⟨p22, c22_29 + 1, (([] : List Int) ++ [c22_29]), .ref (nx22 + 13) 0 (List.length (([] : List Int) ++ [c22_29])) 1 (List.length (([] : List Int) ++ [c22_29])), rfl, Int.le_trans hi22 (Int.le_add_one (Int.le_refl _)), drop_next hi22 hp22, rfl, (show 25 ≤ nx22 + 17 by omega), ?_, e55, e58, e59, ?_, ?_, Or.inl ⟨nx22 + 13, (some 3), rfl, (by first | omega | (simp only [nm, seval]; omega)), (by first | omega | (intro hh; simp only [n30, reduceCtorEq] at hh)), ?_⟩, h⟩ <;> first | (simp only [ua, d13, n30, H24, d50, w51, e55, e56, e57, e58, e59, e60, e61, d62, nm, seval] <;> rfl) | rfl⟩
end Go.V
end
section
namespace Go.V
open Go Go.Proofs
end Go.V
end
section
namespace Go.V
open Go Go.Proofs
end Go.V
end
section
namespace Go.V
open Go Go.Proofs
end Go.V
end
section
namespace Go.V
open Go Go.Proofs
def g_ref01_Same_l0 (x1_b : List Int) : List Int → Int → Option (LOut (Bool) (Unit))
 | [], c0_5 => some (.go ())
 | e0 :: p0, c0_5 => Option.bind (getI x1_b c0_5) (fun x1 => cond (e0 != x1) (some (.ret false)) (g_ref01_Same_l0 x1_b p0 (c0_5 + 1)))
def g_ref01_Same (x0_a : List Int) (x1_b : List Int) : Option (Bool) := cond ((List.length x0_a : Int) != (List.length x1_b : Int)) (some false) (cond (lenOk x0_a) (lbind (g_ref01_Same_l0 x1_b x0_a 0) (fun r3 => some r3) (fun c2 => some true) (fun _ _ => none)) none)
theorem g_ref01_Same_ok (x0_a : List Int) (x1_b : List Int) (R : Bool) (h : g_ref01_Same x0_a x1_b = some R) : VPure Tryz.prog G0 34 [.sl (cellsL eI x0_a) (List.length x0_a) false, .sl (cellsL eI x1_b) (List.length x1_b) false] (.tree (.lit (.bool R))) := by
 refine VPure.runR mixed Tryz.call34 Tryz.func34 rfl (by simp [Tryz.ntmps34]; kernel_rfl) ?_
 obtain ⟨KF, h, kF, kN⟩ := fun_intro h
 simp only [g_ref01_Same] at h
 cases d4 : ((List.length x0_a : Int) != (List.length x1_b : Int))
 ·simp only [d4, hs, reduceCtorEq] at h
  cases g6 : (lenOk x0_a)
  ·simp only [g6, hs, reduceCtorEq] at h
   exact absurd h kN
  simp only [g6, hs, reduceCtorEq] at h
  simp only [vz, tyf, d4, g6, nm, seval]
  obtain ⟨K5, h, kR5, kG5, kB5, kN5⟩ := lbind_intro h kN
  obtain ⟨f5, hf5, h⟩ := call2 h
  obtain ⟨I5, hI5⟩ : ∃ I : Nat → St → Prop, I = (fun m st => ∃ (p5 : List Int) (c5_5 : Int), m = List.length p5 ∧ 0 ≤ c5_5 ∧ List.drop (Int.toNat c5_5) x0_a = p5 ∧ st.df = [] ∧ 7 ≤ st.nx ∧ st.tm 0 = .sl (cellsL eI x0_a) (List.length x0_a) false ∧ st.tm 1 = .sl (cellsL eI x1_b) (List.length x1_b) false ∧ st.tm 5 = .lit (.int .i64 c5_5) ∧ K5 (f5 p5 c5_5)) := ⟨_, rfl⟩
  refine loopK mixed (by kernel_rfl) I5 (List.length x0_a) (by rw [hI5]; refine ⟨x0_a, 0, rfl, Int.le_refl _, rfl, rfl, (show 7 ≤ 7 by omega), ?_, ?_, ?_, h⟩ <;> first | (simp only [ua, d4, nm, seval] <;> rfl) | rfl) ?_
  rintro m ⟨tm, H, nx5, df⟩ hinv
  rw [hI5] at hinv
  obtain ⟨p5, c5_5, rfl, hi5, hp5, hdf, hn5, e7, e8, e9, h⟩ := hinv
  simp only at hdf hn5 e7 e8 e9
  have n10 := base_ne0 (m := 7) (b := nx5) (by omega)
  subst hdf hf5
  cases p5 with
  | nil =>
   have d11 : (decide (c5_5 < (List.length x0_a : Int))) = false := not_lt_of_drop hi5 hp5
   simp only [g_ref01_Same_l0, hs, reduceCtorEq] at h
   replace h := kG5 _ h
   try dsimp only at h
   try simp only [hs] at h
   try simp only [vz, tyf, d4, g6, n10, e7, e8, e9, d11, nm, seval]
   obtain rfl := kF _ h
   exact opd_bool Tryz.results34 (by first | rfl | (simp only [upd_apply, seval] <;> rfl))
  | cons e5 p5 =>
   have d12 : (decide (c5_5 < (List.length x0_a : Int))) = true := lt_of_drop hi5 hp5
   have o14 := getI_of_drop hi5 hp5
   have w13 := wrap_next hi5 hp5 g6
   simp only [g_ref01_Same_l0, hs, reduceCtorEq] at h
   simp only [vz, tyf, d4, g6, n10, e7, e8, e9, d12, (ix57 o14), w13, nm, seval]
   refine cwp_drwQF (fun tm => tm 0 = .sl (cellsL eI x0_a) (List.length x0_a) false ∧ tm 1 = .sl (cellsL eI x1_b) (List.length x1_b) false ∧ tm 5 = .lit (.int .i64 c5_5) ∧ True) (by refine ⟨e7, e8, e9, trivial⟩ <;> first | (simp only [ua, d4, n10, e7, e8, e9, d12, w13, nm, seval] <;> rfl) | rfl) ?_
   rintro tm ⟨e15, e16, e17, _⟩
   cases o19 : (getI x1_b c5_5) with
   | none =>
    simp only [o19, hs, reduceCtorEq] at h
    exact absurd h kN5
   | some x18 =>
    simp only [o19, hs, reduceCtorEq] at h
    cases d20 : (e5 != x18)
    ·simp only [d20, hs, reduceCtorEq] at h
     simp only [vz, tyf, d4, g6, n10, d12, (ix57 o14), w13, e15, e16, e17, (ix57 o19), d20, nm, seval]
     exact ⟨List.length p5, Nat.lt_succ_self _, by rw [hI5]; refine ⟨p5, c5_5 + 1, rfl, Int.le_trans hi5 (Int.le_add_one (Int.le_refl _)), drop_next hi5 hp5, rfl, (show 7 ≤ nx5 + 16 by omega), e15, e16, ?_, h⟩ <;> first | (simp only [ua, d4, n10, d12, w13, e15, e16, e17, d20, nm, seval] <;> rfl) | rfl⟩
    simp only [d20, hs, reduceCtorEq] at h
    try simp only [vz, tyf, d4, g6, n10, d12, (ix57 o14), w13, e15, e16, e17, (ix57 o19), d20, nm, seval]
    replace h := kR5 _ h
    try dsimp only at h
    obtain rfl := kF _ h
    exact opd_bool Tryz.results34 (by first | rfl | (simp only [upd_apply, seval] <;> rfl))
 simp only [d4, hs, reduceCtorEq] at h
 try simp only [vz, tyf, d4, nm, seval]
 obtain rfl := kF _ h
 exact opd_bool Tryz.results34 (by first | rfl | (simp only [upd_apply, seval] <;> rfl))
end Go.V
end
