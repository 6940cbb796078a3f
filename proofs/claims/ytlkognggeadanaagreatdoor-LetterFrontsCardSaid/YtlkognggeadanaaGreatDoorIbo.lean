/- Part of a proof. -/
import Derived.Test.YtlkognggeadanaaGreatDoorIbn
set_option linter.all false
set_option maxRecDepth 4000
set_option maxHeartbeats 40000000
section
namespace Go.V
open Go Go.Proofs IntKind
def accS (out : List Int) : Option (List GLe) → List VV
 | none => [.lit (.slice none 0 0), .lit (.slice none 0 0)]
 | some r => [vx eI out, sE r]
def bestS (better : (List GLe) → (List GLe) → Option Bool) : List (List GLe) → Option (List GLe) → Option (Option (List GLe))
 | [], acc => some acc
 | x :: L, none => bestS better L (some x)
 | x :: L, some r => Option.bind (better x r) fun t => bestS better L (some (cond t x r))
def rezS (out : List Int) : Option (List GLe) → VV
 | none => .tup [.agg [.sl [] 0 false, .sl [] 0 false], .lit (.bool false)]
 | some r => .tup [.agg (cGLx (GLx.mk out r)), .lit (.bool true)]
theorem IM (out : List Int) {itv : VV} {bf : Nat} {mc : List VV} {L : List (List GLe)} (hit : Iter Tryz.prog G0 itv (L.map fun e => sSet out e)) (hmt : treeL mc = true) {better : (List GLe) → (List GLe) → Option Bool}
  (hb : ∀ a b t, better a b = some t → ad Tryz.prog G0 bf (sSet out a :: sSet out b :: mc) (.tree (.lit (.bool t)))) (R : Option (List GLe)) (h : bestS better L none = some R) :
  ad Tryz.prog G0 91 [itv, .fn (.func bf) [] mc] (.tree (rezS out R)) := by
 refine ad.runR mixed Tryz.call91 Tryz.func91 rfl (by simp [Tryz.ntmps91]; kernel_rfl) ?_
 simp only [vz, @eP, tyf, seval, ua, rg]
 refine yx (fun tm => tm 9 = itv ∧ tm 3 = .ptr 0 0 ∧ tm 4 = .ptr 1 0 ∧ tm 6 = .ptr 3 0 ∧ tm 7 = .ptr 4 0) (by refine ⟨?_, ?_, ?_, ?_, ?_⟩ <;> simp only [ua, seval]) ?_
 rintro tm ⟨e9, e3, e4, e6, e7⟩
 refine DN hit (by first | (simp only [m3, uY, e9, sK, seval] <;> rfl) | rfl) ?_
 intro LO hLO
 obtain ⟨J, hJ⟩ : ∃ J : Option (List VV) → List (Nat × VObj) → Prop, J = (fun o hp => match o with
  | some l => ∃ (p : List (List GLe)) (acc : Option (List GLe)), l = (p.map fun e => sSet out e) ∧ hp = [(7, .deferred (some [])), (8, LO), (0, .cells (some 64) [.fn (.func bf) [] mc]), (1, .cells (some 31) [.lit (.slice none 0 0), .lit (.slice none 0 0)]), (3, .cells (some 31) (accS out acc)), (4, .cells (some 4) [.lit (.bool acc.isSome)])] ∧ bestS better p acc = some R
  | none => False) := ⟨_, rfl⟩
 refine ⟨ownI J, Pm, ?_, ?_, ?_⟩
 ·rintro v rest Fr H nx hFr ⟨hp, hown, hj⟩
  rw [hJ] at hj
  obtain ⟨p, acc, hl, rfl, hR⟩ := hj
  cases p with
  | nil => cases hl
  | cons e p =>
  simp only [List.map_cons, List.cons.injEq] at hl
  obtain ⟨rfl, rfl⟩ := hl
  obtain ⟨l7, n7, H7⟩ := hown.head
  obtain ⟨l8, n8, H8⟩ := hown.tail.head
  obtain ⟨l0, n0, H0⟩ := hown.tail.tail.head
  obtain ⟨l1, n1, H1⟩ := hown.tail.tail.tail.head
  obtain ⟨l3, n3, H3⟩ := hown.tail.tail.tail.tail.head
  obtain ⟨l4, n4, H4⟩ := hown.tail.tail.tail.tail.tail.head
  have jz : (nx = 0) = False := by simp only [eq_iff_iff, iff_false]; omega
  have kc : (nx = 1) = False := by simp only [eq_iff_iff, iff_false]; omega
  have lv : (nx = 3) = False := by simp only [eq_iff_iff, iff_false]; omega
  have ly : (nx = 4) = False := by simp only [eq_iff_iff, iff_false]; omega
  have tF : (nx = 7) = False := by simp only [eq_iff_iff, iff_false]; omega
  have iX : (nx = 8) = False := by simp only [eq_iff_iff, iff_false]; omega
  have lz : (0 = nx) = False := by simp only [eq_iff_iff, iff_false]; omega
  have lA : (1 = nx) = False := by simp only [eq_iff_iff, iff_false]; omega
  have lB : (3 = nx) = False := by simp only [eq_iff_iff, iff_false]; omega
  have lC : (4 = nx) = False := by simp only [eq_iff_iff, iff_false]; omega
  have tG : (7 = nx) = False := by simp only [eq_iff_iff, iff_false]; omega
  have iY : (8 = nx) = False := by simp only [eq_iff_iff, iff_false]; omega
  refine DM mixed (psl := [10]) hLO H8 D9 rfl (by kernel_rfl) (by kernel_rfl) ?_
  intro LB LD hLB hLD
  refine DA (fun tm => tm 10 = sSet out e ∧ tm 3 = .ptr 0 0 ∧ tm 6 = .ptr 3 0 ∧ tm 7 = .ptr 4 0) (by refine ⟨?_, ?_, ?_, ?_⟩ <;> simp only [D7, D8, Tryz.ntmps91, e3, e6, e7, seval]) ?_
  clear e9 e3 e4 e6 e7
  rintro tm ⟨bg, e3, e6, e7⟩
  cases acc with
  | none =>
   simp only [accS, Option.isSome_none] at H3 H4
   unfold bestS at hR
   simp only [vz, @eP, mq, mqm, mqt, tyf, seval, ua, nm, rg, RStart, vcells1 ej, ej, bg, e3, e6, e7, H8, H0, H3, H4, jz, kc, lv, ly, iX, lz, lA, lB, lC, iY, Nat.add_zero, Bool.not_false]
   refine ⟨by simp only [bl, seval, nm, iX, iY, Nat.add_zero, if_false], qZe _ _, fun γ hγ => ?_, ?_⟩
   ·have g8 : γ ≠ 8 := fun e => n8 (e ▸ hγ)
    have g3 : γ ≠ 3 := fun e => n3 (e ▸ hγ)
    have g4 : γ ≠ 4 := fun e => n4 (e ▸ hγ)
    have gx : γ ≠ nx := fun e => by have := hFr γ hγ; omega
    simp only [updH, Nat.add_zero, g8, g3, g4, gx, if_false]
   ·simp only [if_true]
    refine ⟨[(7, .deferred (some [])), (8, LO), (0, .cells (some 64) [.fn (.func bf) [] mc]), (1, .cells (some 31) [.lit (.slice none 0 0), .lit (.slice none 0 0)]), (3, .cells (some 31) [vx eI out, sE e]), (4, .cells (some 4) [.lit (.bool true)])], Own.cons (qZd l7 (qZe _ _)) n7 ?_ (Own.cons (qZd l8 (qZe _ _)) n8 ?_ (Own.cons (qZd l0 (qZe _ _)) n0 ?_ (Own.cons (qZd l1 (qZe _ _)) n1 ?_ (Own.cons (qZd l3 (qZe _ _)) n3 ?_ (Own.cons (qZd l4 (qZe _ _)) n4 ?_ (Own.nil)))))), ?_⟩
    rotate_left 6
    ·rw [hJ]
     exact ⟨p, some e, rfl, rfl, hR⟩
    all_goals simp only [bl, seval, nm, jz, kc, lv, ly, tF, iX, lz, lA, lB, lC, tG, iY, Nat.add_zero, H7, H8, H0, H1, H3, H4, if_false]
    all_goals first | rfl | (simp only [tyf]; done) | skip
  | some r =>
   simp only [accS, Option.isSome_some] at H3 H4
   unfold bestS at hR
   rcases hbt : better e r with _ | t
   ·rw [hbt] at hR; cases hR
   rw [hbt, Option.bind_some] at hR
   simp only [vz, @eP, mq, mqm, mqt, tyf, seval, ua, nm, rg, RStart, vcells1 ej, ej, bg, e3, e6, e7, H8, H0, H3, H4, jz, kc, lv, ly, iX, lz, lA, lB, lC, iY, Nat.add_zero, Bool.not_true]
   refine ktreeR ?_ (hb e r t hbt) ?_
   ·simp only [tre, ar, mqr, mJ, hmt, Bool.and_self]
   cases t with
   | true =>
    simp only [vz, @eP, mq, mqm, mqt, tyf, seval, ua, nm, rg, RStart, vcells1 ej, ej, bg, e3, e6, e7, H8, H0, H3, H4, jz, kc, lv, ly, iX, lz, lA, lB, lC, iY, Nat.add_zero]
    refine ⟨by simp only [bl, seval, nm, iX, iY, Nat.add_zero, if_false], qZe _ _, fun γ hγ => ?_, ?_⟩
    ·have g8 : γ ≠ 8 := fun e => n8 (e ▸ hγ)
     have g3 : γ ≠ 3 := fun e => n3 (e ▸ hγ)
     have g4 : γ ≠ 4 := fun e => n4 (e ▸ hγ)
     have gx : γ ≠ nx := fun e => by have := hFr γ hγ; omega
     simp only [updH, Nat.add_zero, g8, g3, g4, gx, if_false]
    ·simp only [if_true]
     refine ⟨[(7, .deferred (some [])), (8, LO), (0, .cells (some 64) [.fn (.func bf) [] mc]), (1, .cells (some 31) [.lit (.slice none 0 0), .lit (.slice none 0 0)]), (3, .cells (some 31) [vx eI out, sE e]), (4, .cells (some 4) [.lit (.bool true)])], Own.cons (qZd l7 (qZe _ _)) n7 ?_ (Own.cons (qZd l8 (qZe _ _)) n8 ?_ (Own.cons (qZd l0 (qZe _ _)) n0 ?_ (Own.cons (qZd l1 (qZe _ _)) n1 ?_ (Own.cons (qZd l3 (qZe _ _)) n3 ?_ (Own.cons (qZd l4 (qZe _ _)) n4 ?_ (Own.nil)))))), ?_⟩
     rotate_left 6
     ·rw [hJ]
      exact ⟨p, some e, rfl, rfl, hR⟩
     all_goals simp only [bl, seval, nm, jz, kc, lv, ly, tF, iX, lz, lA, lB, lC, tG, iY, Nat.add_zero, H7, H8, H0, H1, H3, H4, if_false]
     all_goals first | rfl | (simp only [tyf]; done) | skip
   | false =>
    simp only [vz, @eP, mq, mqm, mqt, tyf, seval, ua, nm, rg, RStart, vcells1 ej, ej, bg, e3, e6, e7, H8, H0, H3, H4, jz, kc, lv, ly, iX, lz, lA, lB, lC, iY, Nat.add_zero]
    refine ⟨by simp only [bl, seval, nm, iX, iY, Nat.add_zero, if_false], qZe _ _, fun γ hγ => ?_, ?_⟩
    ·have g8 : γ ≠ 8 := fun e => n8 (e ▸ hγ)
     have g3 : γ ≠ 3 := fun e => n3 (e ▸ hγ)
     have g4 : γ ≠ 4 := fun e => n4 (e ▸ hγ)
     have gx : γ ≠ nx := fun e => by have := hFr γ hγ; omega
     simp only [updH, Nat.add_zero, g8, g3, g4, gx, if_false]
    ·simp only [if_true]
     refine ⟨[(7, .deferred (some [])), (8, LO), (0, .cells (some 64) [.fn (.func bf) [] mc]), (1, .cells (some 31) [.lit (.slice none 0 0), .lit (.slice none 0 0)]), (3, .cells (some 31) [vx eI out, sE r]), (4, .cells (some 4) [.lit (.bool true)])], Own.cons (qZd l7 (qZe _ _)) n7 ?_ (Own.cons (qZd l8 (qZe _ _)) n8 ?_ (Own.cons (qZd l0 (qZe _ _)) n0 ?_ (Own.cons (qZd l1 (qZe _ _)) n1 ?_ (Own.cons (qZd l3 (qZe _ _)) n3 ?_ (Own.cons (qZd l4 (qZe _ _)) n4 ?_ (Own.nil)))))), ?_⟩
     rotate_left 6
     ·rw [hJ]
      exact ⟨p, some r, rfl, rfl, hR⟩
     all_goals simp only [bl, seval, nm, jz, kc, lv, ly, tF, iX, lz, lA, lB, lC, tG, iY, Nat.add_zero, H7, H8, H0, H1, H3, H4, if_false]
     all_goals first | rfl | (simp only [tyf]; done) | skip
 ·refine ⟨[(7, .deferred (some [])), (8, LO), (0, .cells (some 64) [.fn (.func bf) [] mc]), (1, .cells (some 31) [.lit (.slice none 0 0), .lit (.slice none 0 0)]), (3, .cells (some 31) [.lit (.slice none 0 0), .lit (.slice none 0 0)]), (4, .cells (some 4) [.lit (.bool false)])], Own.cons (show 7 < 9 by omega) (fun h => h) ?_ (Own.cons (show 8 < 9 by omega) (fun h => h) ?_ (Own.cons (show 0 < 9 by omega) (fun h => h) ?_ (Own.cons (show 1 < 9 by omega) (fun h => h) ?_ (Own.cons (show 3 < 9 by omega) (fun h => h) ?_ (Own.cons (show 4 < 9 by omega) (fun h => h) ?_ (Own.nil)))))), ?_⟩
  rotate_left 6
  ·rw [hJ]
   exact ⟨L, none, rfl, rfl, h⟩
  all_goals first | (simp only [bl, seval] <;> rfl) | rfl
 ·rintro H' nx' (⟨hp, hown, hj⟩ | ⟨hp, hown, hj⟩)
  ·rw [hJ] at hj
   obtain ⟨p, acc, hl, rfl, hR⟩ := hj
   cases p with
   | cons e p => cases hl
   | nil =>
   simp only [bestS, Option.some.injEq] at hR
   subst hR
   obtain ⟨l7, n7, H7⟩ := hown.head
   obtain ⟨l8, n8, H8⟩ := hown.tail.head
   obtain ⟨l0, n0, H0⟩ := hown.tail.tail.head
   obtain ⟨l1, n1, H1⟩ := hown.tail.tail.tail.head
   obtain ⟨l3, n3, H3⟩ := hown.tail.tail.tail.tail.head
   obtain ⟨l4, n4, H4⟩ := hown.tail.tail.tail.tail.tail.head
   refine D5 hLO H8 ?_
   intro LX
   cases acc with
   | none =>
    simp only [accS, Option.isSome_none] at H1 H3 H4
    refine px (fun tm => tm 4 = .ptr 1 0 ∧ tm 6 = .ptr 3 0 ∧ tm 7 = .ptr 4 0) ⟨e4, e6, e7⟩ ?_
    clear e9 e3 e4 e6 e7
    rintro tm ⟨e4, e6, e7⟩
    simp only [vz, @eP, mq, mqm, mqt, tyf, seval, ua, nm, rg, vcells1 ej, ej, e4, e6, e7, H1, H3, H4]
    refine k9 ⟨?_, ?_⟩
    ·simp only [kE, kG, fu, kH, and_true, true_and]
     repeat' (first | exact trivial | refine And.intro ?_ ?_ | rw [fu] | rw [kI] | exact Or.inl (by decide +kernel) | exact Or.inl (by dsimp only; decide +kernel) | (refine Or.inr ⟨?_, ?_⟩ <;> simp; done) | (refine Or.inr ⟨?_, ?_⟩ <;> simp <;> omega) | (refine Or.inr ⟨?_, ?_⟩ <;> simp [VEff.wr] <;> omega))
    simp only [vz, @eP, mq, mqm, mqt, tyf, seval, ua, nm, rg, vcells1 ej, ej, e4, e6, e7, H1, H3, H4]
    refine wX (by simp only [bl, seval, nm, H7]) ?_
    refine cG (x := .tup [.agg ([.lit (.slice none 0 0), .lit (.slice none 0 0)]), .lit (.bool false)]) (by simp only [Tryz.results91, resV, resL, aD, cX, cW, uw, cr, tyf, mqt, e4, nm, seval] <;> rfl) ?_
    refine cY (by simp only [rezS, tre, ar, mqr, mJ, Bool.and_self]) ?_
    simp only [outV, rezS, nrm, au, mqr, vM, BR, tH, tyf, seval, List.map_cons, List.map_nil]
   | some r =>
    simp only [accS, Option.isSome_some] at H1 H3 H4
    refine px (fun tm => tm 4 = .ptr 1 0 ∧ tm 6 = .ptr 3 0 ∧ tm 7 = .ptr 4 0) ⟨e4, e6, e7⟩ ?_
    clear e9 e3 e4 e6 e7
    rintro tm ⟨e4, e6, e7⟩
    simp only [vz, @eP, mq, mqm, mqt, tyf, seval, ua, nm, rg, vcells1 ej, ej, e4, e6, e7, H1, H3, H4]
    refine k9 ⟨?_, ?_⟩
    ·simp only [kE, kG, fu, kH, and_true, true_and]
     repeat' (first | exact trivial | refine And.intro ?_ ?_ | rw [fu] | rw [kI] | exact Or.inl (by decide +kernel) | exact Or.inl (by dsimp only; decide +kernel) | (refine Or.inr ⟨?_, ?_⟩ <;> simp; done) | (refine Or.inr ⟨?_, ?_⟩ <;> simp <;> omega) | (refine Or.inr ⟨?_, ?_⟩ <;> simp [VEff.wr] <;> omega))
    simp only [vz, @eP, mq, mqm, mqt, tyf, seval, ua, nm, rg, vcells1 ej, ej, e4, e6, e7, H1, H3, H4]
    refine wX (by simp only [bl, seval, nm, H7]) ?_
    refine cG (x := .tup [.agg ([vx eI out, sE r]), .lit (.bool true)]) (by simp only [Tryz.results91, resV, resL, aD, cX, cW, uw, cr, tyf, mqt, e4, nm, seval] <;> rfl) ?_
    refine cY (by simp only [rezS, tre, ar, mqr, mJ, Bool.and_self]) ?_
    simp only [outV, rezS, nrm, au, mqr, vM, BR, tH, tyf, seval, List.map_cons, List.map_nil]
  ·rw [hJ] at hj
   exact hj.elim
def vN  : List Int → Int → Int → Option (LOut (Int) (Int))
 | [], yy, dr => some (.go dr)
 | e0 :: p0, yy, dr => vN p0 (yy + 1) (if dr < e0 then e0 else dr)
def yz (bK : List Int) : Option (Int) := cond (decide ((List.length bK : Int) < 1)) (none) (Option.bind (getI bK 0) (fun x1 => cond (lenOk bK) (cond (leB 0 1) (lbind (vN (List.drop (Int.toNat 1) bK) 1 x1) (fun r3 => some r3) (fun c2 => some c2) (fun _ _ => none)) none) none))
theorem Un (bK : List Int) (R : Int) (h : yz bK = some R) : ad Tryz.prog G0 130 [.sl (aa eI bK) (List.length bK) false] (.tree (.lit (.int .i64 R))) := by
 refine ad.runR mixed Tryz.call130 Tryz.func130 rfl (by simp [Tryz.ntmps130]; kernel_rfl) ?_
 obtain ⟨KF, h, kF, kN⟩ := ec h
 simp only [yz] at h
 cases d4 : (decide ((List.length bK : Int) < 1))
 ·simp only [d4, hs] at h
  obtain ⟨x5, o6, h⟩ := optI h kN
  try simp only [hs] at h
  cases g8 : (lenOk bK)
  ·simp only [g8, hs] at h
   exact absurd h kN
  simp only [g8, hs] at h
  cases g9 : (leB 0 1)
  ·simp only [g9, hs] at h
   exact absurd h kN
  simp only [g9, hs] at h
  simp only [vz, tyf, d4, (aC o6), g8, g9, nm, seval]
  obtain ⟨K7, h, vt, Hu, TJ, xI⟩ := gS h kN
  obtain ⟨f7, Hv, h⟩ := call3 h
  obtain ⟨I7, qn⟩ : ∃ I : Nat → St → Prop, I = (fun m st => ∃ (p7 : List Int) (kd : Int) (dt : Int), m = List.length p7 ∧ 0 ≤ kd ∧ List.drop (Int.toNat kd) bK = p7 ∧ st.df = [] ∧ 9 ≤ st.nx ∧ st.tm 0 = .sl (aa eI bK) (List.length bK) false ∧ st.tm 3 = .lit (.int .i64 dt) ∧ st.tm 4 = .lit (.int .i64 kd) ∧ K7 (f7 p7 kd dt)) := ⟨_, rfl⟩
  refine loopK mixed (by kernel_rfl) I7 (List.length (List.drop (Int.toNat 1) bK)) (by rw [qn]; refine ⟨List.drop (Int.toNat 1) bK, 1, x5, rfl, of_decide_eq_true g9, rfl, rfl, (show 9 ≤ 9 by omega), ?_, ?_, ?_, h⟩ <;> first | (simp only [ua, d4, nm, seval] <;> rfl) | rfl) ?_
  rintro m ⟨tm, H, oc, df⟩ hinv
  rw [qn] at hinv
  obtain ⟨p7, kd, dt, rfl, jY, m9, hdf, Hw, bg, bj, bD, h⟩ := hinv
  simp only at hdf Hw bg bj bD
  have y8 := gT (m := 9) (b := oc) (by omega)
  subst hdf Hv
  cases p7 with
  | nil =>
   have bE : (decide (kd < (List.length bK : Int))) = false := fA jY m9
   simp only [vN, hs, reduceCtorEq] at h
   replace h := Hu _ h
   try dsimp only at h
   try simp only [hs] at h
   try simp only [vz, tyf, d4, (aC o6), g8, g9, y8, bg, bj, bD, bE, nm, seval]
   refine cG (x := (.lit (.int .i64 dt))) (by first | (simp only [Tryz.results130, resV, resL, aD, cX, cW, uw, cr, tyf, d4, (aC o6), g8, g9, y8, bE, nm, seval] <;> rfl) | rfl) ?_
   obtain rfl := kF _ h
   refine cY ?_ ?_
   ·simp only [tre, ar, Bool.and_self]
   ·first | (simp only [outV, uw, eu, cr, tyf, nrm, au, d4, (aC o6), g8, g9, y8, bg, bj, bD, bE, nm, seval] <;> rfl) | rfl
  | cons e7 p7 =>
   have db : (decide (kd < (List.length bK : Int))) = true := fB jY m9
   have yg := dU jY m9
   have Qz := fC jY m9 g8
   simp only [vN, hs, reduceCtorEq] at h
   simp only [vz, tyf, d4, (aC o6), g8, g9, y8, bg, bj, bD, db, (aC yg), Qz, nm, seval]
   exact ⟨List.length p7, qZc _, by rw [qn]; refine ⟨p7, kd + 1, (if dt < e7 then e7 else dt), rfl, Int.le_trans jY (Int.le_add_one (qZf _)), bY jY m9, rfl, (show 9 ≤ oc + 14 by omega), bg, ?_, ?_, (by first | exact h | (simp only [d4, db]; exact h))⟩ <;> first | (simp only [ua, d4, y8, bg, bj, bD, db, Qz, nm, seval] <;> rfl) | rfl⟩
 simp only [d4, hs] at h
 exact absurd h kN
def rS (ag : GLs) (bZ : GLx) : Option (Int) := Option.bind (rT ag bZ 0) (fun r1 => Option.bind (yn r1) (fun r2 => Option.bind (yz r2) (fun r3 => some r3)))
theorem IN (ag : GLs) (bZ : GLx) (R : Int) (h : rS ag bZ = some R) : ad Tryz.prog G0 94 [.agg (cGLs ag), .agg (cGLx bZ)] (.tree (.lit (.int .i64 R))) := by
 refine ad.runR mixed Tryz.call94 Tryz.func94 rfl (by simp [Tryz.ntmps94]; kernel_rfl) ?_
 obtain ⟨KF, h, kF, kN⟩ := ec h
 simp only [rS] at h
 obtain ⟨r4, o5, h⟩ := optI h kN
 try simp only [hs] at h
 simp only [vz, mq, mqm, tyf, mqt, nm, seval]
 refine ktree (args0 := [.agg (cGLs ag), .agg (cGLx bZ), .lit (.int .i64 0)]) (by first | (simp only [nrm, au, mqr] <;> rfl) | rfl) (by simp only [tre, ar, mqr, Bool.and_self]) (Q0 _ _ _ _ o5) ?_
 refine bC (fun tm => tm 7 = .agg (cGld r4) ∧ True) (by refine ⟨?_, trivial⟩ <;> first | (simp only [ua, bT, nm, seval] <;> rfl) | rfl) ?_
 rintro tm ⟨e6, _⟩
 obtain ⟨r7, o8, h⟩ := optI h kN
 try simp only [hs] at h
 simp only [vz, mq, mqm, tyf, mqt, e6, nm, seval]
 refine ktree (args0 := [.agg (cGld r4)]) (by first | (simp only [nrm, au, mqr] <;> rfl) | rfl) (by simp only [tre, ar, mqr, Bool.and_self]) (Ug _ _ o8) ?_
 refine bC (fun tm => tm 8 = .sl (aa eI r7) (List.length r7) false ∧ True) (by refine ⟨?_, trivial⟩ <;> first | (simp only [ua, bT, e6, nm, seval] <;> rfl) | rfl) ?_
 rintro tm ⟨e9, _⟩
 obtain ⟨vw, Uo, h⟩ := optI h kN
 try simp only [hs] at h
 simp only [vz, mq, mqm, tyf, mqt, e9, nm, seval]
 refine ktree (args0 := [.sl (aa eI r7) (List.length r7) false]) (by first | (simp only [nrm, au, mqr] <;> rfl) | rfl) (by simp only [tre, ar, mqr, Bool.and_self]) (Un _ _ Uo) ?_
 refine bC (fun tm => tm 9 = .lit (.int .i64 vw) ∧ True) (by refine ⟨?_, trivial⟩ <;> first | (simp only [ua, bT, e9, nm, seval] <;> rfl) | rfl) ?_
 rintro tm ⟨bD, _⟩
 try simp only [vz, mq, mqm, tyf, mqt, bD, nm, seval]
 refine cG (x := (.lit (.int .i64 vw))) (by first | (simp only [Tryz.results94, resV, resL, aD, cX, cW, uw, cr, tyf, mqt, nm, seval] <;> rfl) | rfl) ?_
 obtain rfl := kF _ h
 refine cY ?_ ?_
 ·simp only [tre, ar, mqr, Bool.and_self]
 ·first | (simp only [outV, uw, eu, jR, jK, cr, tyf, mqt, nrm, au, bD, nm, seval] <;> rfl) | rfl
def BS (ez : GLx) (eA : GLx) (bh : GLs) : Option (Bool) := Option.bind (rS bh ez) (fun r1 => Option.bind (rS bh eA) (fun r2 => some (decide (r1 < r2))))
theorem Up (ez : GLx) (eA : GLx) (bh : GLs) (R : Bool) (h : BS ez eA bh = some R) : ad Tryz.prog G0 93 [.agg (cGLx ez), .agg (cGLx eA), .tp (cGLs bh)] (.tree (.lit (.bool R))) := by
 refine ad.runR mixed Tryz.call93 Tryz.func93 rfl (by simp [Tryz.ntmps93]; kernel_rfl) ?_
 obtain ⟨KF, h, kF, kN⟩ := ec h
 simp only [BS] at h
 simp only [vz, tyf, nm, seval]
 refine qf (fun tm => tm 2 = .tp (cGLs bh) ∧ tm 3 = .ptr 0 0 ∧ tm 4 = .ptr 1 0 ∧ True) (by refine ⟨?_, ?_, ?_, trivial⟩ <;> first | (simp only [ua, nm, seval] <;> rfl) | rfl) ?_
 rintro tm ⟨e3, e4, e5, _⟩
 obtain ⟨r6, o7, h⟩ := optI h kN
 try simp only [hs] at h
 simp only [vz, tyf, e3, e4, e5, nm, seval]
 refine dktA (IN _ _ _ o7) ?_
 refine bC (fun tm => tm 2 = .tp (cGLs bh) ∧ tm 4 = .ptr 1 0 ∧ tm 8 = .lit (.int .i64 r6) ∧ True) (by refine ⟨e3, e5, ?_, trivial⟩ <;> first | (simp only [ua, e3, e4, e5, nm, seval] <;> rfl) | rfl) ?_
 rintro tm ⟨e8, e9, bg, _⟩
 obtain ⟨nW, iQ, h⟩ := optI h kN
 try simp only [hs] at h
 simp only [vz, tyf, e8, e9, bg, nm, seval]
 refine dktA (IN _ _ _ iQ) ?_
 refine bC (fun tm => tm 8 = .lit (.int .i64 r6) ∧ tm 11 = .lit (.int .i64 nW) ∧ True) (by refine ⟨bg, ?_, trivial⟩ <;> first | (simp only [ua, e8, e9, bg, nm, seval] <;> rfl) | rfl) ?_
 rintro tm ⟨bt, bS, _⟩
 try simp only [vz, tyf, bt, bS, nm, seval]
 obtain rfl := kF _ h
 exact bz Tryz.results93 rfl
theorem VWp.freeze1 {P : Program} {G : Glob} {n : Nat} {code : Code} {Q : VExit → St → Prop} {tm : Nat → VV} {H : Nat → Option VObj} {nx : Nat} {df : List VDef} {a γ : Nat} {e1 : Option TypeId} {c1 : List VV} (ha : tm a = .ptr γ 0) (hH : H γ = some (.cells e1 c1))
  (h1 : treeL c1 = true) (h : VWp P G n code Q ⟨upd tm a (.tp c1), fun _ => none, nx, df⟩) : VWp P G n code Q ⟨tm, H, nx, df⟩ := by
 refine VWp.freeze (fun _ => none) (upd tm a (.tp c1)) (fun β o' hh => by cases hh) (fun x s pe tm ps asg bo df hh => by cases hh) (fun t => ?_) h
 show Frozen H (fun _ => none) (tm t) (upd tm a (.tp c1) t)
 unfold upd
 split
 ·rename_i e; rw [e, ha]; exact Frozen.ptr hH rfl h1
 ·exact .same
theorem ktreePN {P : Program} {G : Glob} {f : FuncId} {args : List VV} {x : VV} {d : Option Tmp} {γ : Nat} {tm : Nat → VV} {H : Nat → Option VObj} {nx : Nat} {df : List VDef} {K : St → Prop} {Qp : VV → St → Prop} (ht : treeL args = true) (hp : ad P G f args (.tree x)) (h : fin d γ tm H nx df K x .none) : callK P G f args ⟨tm, H, nx, df⟩ d γ K Qp := by
 refine .inl ⟨ht, .tree x, hp, ?_⟩
 rw [← iD (K := K), je] at h
 exact h
def narB (s : GLs) (a b : List GLe) : Option Bool := BS (GLx.mk [] a) (GLx.mk [] b) s
def y9 (s : GLs) : Option (Int × Int) := Option.bind (rC s) fun b => cond b (Option.bind (q9 s []) fun L => Option.bind (bestS (narB s) L none) fun r => Option.bind r fun z => Option.bind (rS s (GLx.mk [] z)) fun n => some (n, 0)) (some (0, 2))
theorem IP (s : GLs) (a b : List GLe) (t : Bool) (h : narB s a b = some t) : ad Tryz.prog G0 93 (sSet [] a :: sSet [] b :: [.tp (cGLs s)]) (.tree (.lit (.bool t))) := by
 have h1 := Up _ _ _ _ h
 refine ad.norm ?_
 simp only [rn, rl, IQ]
 exact h1
theorem Uq (s : GLs) (R : Int × Int) (h : y9 s = some R) : ad Tryz.prog G0 44 [.agg (cGLs s)] (.tree (.tup [.lit (.int .i64 R.1), .lit (.int .i64 R.2)])) := by
 refine ad.runRW Tryz.call44 Tryz.func44 rfl (by simp [Tryz.ntmps44]) ?_
 have IS : treeL (cGLs s) = true := dy.tree s
 unfold y9 at h
 refine DK mixed (by kernel_rfl) ?_
 simp only [vz, tyf, seval, nm, ua, rg]
 refine VWp.freeze1 (a := 1) (γ := 0) (e1 := some 28) (c1 := cGLs s) (by simp only [ua, seval]) (by simp only [ua, seval]; rfl) IS ?_
 rcases o0 : rC s with _ | b
 ·rw [o0] at h; cases h
 rw [o0, Option.bind_some] at h
 refine DL mixed (by kernel_rfl) ?_
 simp only [vz, tyf, seval, ua, rg]
 refine ktA (PE _ _ o0) ?_
 cases b with
 | false =>
  simp only [cond_false, Option.some.injEq] at h
  subst h
  simp only [vz, tyf, seval, ua, rg, Bool.not_false]
  refine cG (x := .tup [.lit (.int .i64 0), .lit (.int .i64 2)]) (by simp only [Tryz.results44, resV, resL, aD, cX, cW, uw, cr, tyf, nm, seval] <;> rfl) ?_
  refine cY (by simp only [tre, ar]; rfl) ?_
  simp only [outV, nrm, seval, List.map_cons, List.map_nil, eQ, List.length_nil]
 | true =>
 rw [cond_true] at h
 rcases o1 : q9 s [] with _ | L
 ·rw [o1] at h; cases h
 rw [o1, Option.bind_some] at h
 rcases o2 : bestS (narB s) L none with _ | r
 ·rw [o2] at h; cases h
 rw [o2, Option.bind_some] at h
 rcases r with _ | z
 ·cases h
 rw [Option.bind_some] at h
 rcases o3 : rS s (GLx.mk [] z) with _ | n
 ·rw [o3] at h; cases h
 rw [o3, Option.bind_some, Option.some.injEq] at h
 subst h
 have hit := Q1 s [] L o1
 have hmt : treeL [VV.tp (cGLs s)] = true := by simp [treeL, VV.tree, IS]
 have hbest := IM [] (bf := 93) (mc := [.tp (cGLs s)]) hit hmt (better := narB s) (fun a b t hab => IP s a b t hab) (some z) o2
 have hts := IT (s := s) (out := [])
 simp only [vz, tyf, seval, ua, rg, Bool.not_true]
 refine ktreeR ?_ (Q2 s []) ?_
 ·simp only [tre, ar, Bool.and_self]
 simp only [vz, tyf, seval, ua, rg]
 refine ktreePN ?_ hbest ?_
 ·simp [treeL, VV.tree, hts, IS]
  exact ⟨eI_ok.treeL _, cI.treeL _, di.treeL _⟩
 simp only [vz, @eP, mq, mqm, mqt, tyf, seval, ua, nm, rg, rezS]
 refine ktA (IN _ _ _ o3) ?_
 simp only [vz, @eP, mq, mqm, mqt, tyf, seval, ua, nm, rg]
 refine cG (x := .tup [.lit (.int .i64 n), .lit (.int .i64 0)]) (by simp only [Tryz.results44, resV, resL, aD, uw, nm, seval] <;> rfl) ?_
 refine cY (by simp only [tre, ar, Bool.and_self]) ?_
 simp only [outV, nrm, seval, List.map_cons, List.map_nil]
def mx : List Int → Int → Int
 | [], c => c
 | e :: p, c => mx p (if c < e then e else c)
theorem yA : ∀ (p : List Int) (i c : Int), vN p i c = some (.go (mx p c))
 | [], _, _ => rfl
 | e :: p, i, c => by rw [vN, yA p, mx]
theorem mx_le {W : Int} : ∀ (p : List Int) (c : Int), mx p c ≤ W ↔ c ≤ W ∧ ∀ y ∈ p, y ≤ W
 | [], c => by simp [mx]
 | e :: p, c => by
  rw [mx, mx_le p]
  simp only [List.mem_cons, forall_eq_or_imp]
  split
  ·constructor
   ·rintro ⟨a, b⟩; exact ⟨by omega, a, b⟩
   ·rintro ⟨_, a, b⟩; exact ⟨a, b⟩
  ·constructor
   ·rintro ⟨a, b⟩; exact ⟨a, by omega, b⟩
   ·rintro ⟨a, _, b⟩; exact ⟨a, b⟩
theorem IU {e : Int} {p : List Int} (hl : p.length < 1000) : yz (e :: p) = some (mx p e) := by
 unfold yz
 rw [decide_eq_false (by simp; omega), cond_false, show getI (e :: p) 0 = some e from rfl, Option.bind_some, nF (by simp; omega), cond_true, show leB 0 1 = true from rfl, cond_true, yA, og]
 rfl
def frI (s : GLs) (z : List GLe) : Int := match rowsL s 0 (marksOf s (GLx.mk [] z)) z.length 0 with
 | [] => 0
 | e :: p => mx p e
theorem qA {p z : List GLe} (h : IsS p z) (hp : p ≠ []) : z ≠ [] := by
 rintro rfl
 have := h.2.2
 rw [List.getLast?_eq_some_getLast hp] at this
 cases this
theorem tI {s : GLs} {z : List GLe} (hz : z ≠ []) {W : Int} : frI s z ≤ W ↔ ∀ y ∈ rowsL s 0 (marksOf s (GLx.mk [] z)) z.length 0, y ≤ W := by
 unfold frI
 have hl := IV s 0 (marksOf s (GLx.mk [] z)) z.length 0
 cases hr : rowsL s 0 (marksOf s (GLx.mk [] z)) z.length 0 with
 | nil =>
  rw [hr] at hl
  exact (hz (List.length_eq_zero_iff.1 hl.symm)).elim
 | cons e p => simp only [mx_le, List.mem_cons, forall_eq_or_imp]
theorem IW {s : GLs} {z : List GLe} (g : Good s (GLx.mk [] z)) : rS s (GLx.mk [] z) = some (frI s z) := by
 obtain ⟨l, e1, e2, e3, e4, e5, e6⟩ := oz g.sh g.lo g.ends (k := 0) (qZf _) (by omega)
 have hn := IX g
 have hz := qA g.ends (vO g.out)
 simp only [rS, e1, Option.bind_some, Ur e2]
 rw [e3, e4, e5, e6]
 unfold frI
 have hl := IV s 0 (marksOf s (GLx.mk [] z)) z.length 0
 simp only at hn
 cases hr : rowsL s 0 (marksOf s (GLx.mk [] z)) z.length 0 with
 | nil =>
  rw [hr] at hl
  exact (hz (List.length_eq_zero_iff.1 hl.symm)).elim
 | cons e p =>
  rw [hr] at hl
  simp only [List.length_cons] at hl
  rw [IU (by omega)]
  rfl
theorem yB {s : GLs} {a b : List GLe} (ga : Good s (GLx.mk [] a)) (gb : Good s (GLx.mk [] b)) : narB s a b = some (decide (frI s a < frI s b)) := by
 simp only [narB, BS, IW ga, IW gb, Option.bind_some]
theorem IY {s : GLs} : ∀ (L : List (List GLe)) (r : List GLe), (∀ z ∈ r :: L, Good s (GLx.mk [] z)) → ∃ m, bestS (narB s) L (some r) = some (some m) ∧ m ∈ r :: L ∧ ∀ z ∈ r :: L, frI s m ≤ frI s z
 | [], r, _ => ⟨r, rfl, qZb .., fun z hz => by rw [List.mem_singleton.1 hz]; exact qZf _⟩
 | x :: L, r, h => by
  have hx := h x (by simp)
  have hr := h r (by simp)
  by_cases hlt : frI s x < frI s r
  ·obtain ⟨m, h1, h2, h3⟩ := IY L x fun z hz => h z (qZa _ hz)
   refine ⟨m, by rw [bestS, yB hx hr, Option.bind_some, decide_eq_true hlt, cond_true, h1], qZa _ h2, fun z hz => ?_⟩
   rcases List.mem_cons.1 hz with rfl | hz
   ·have := h3 x (qZb ..); omega
   ·exact h3 z hz
  ·obtain ⟨m, h1, h2, h3⟩ := IY L r fun z hz => h z (by rcases List.mem_cons.1 hz with rfl | hz <;> simp [*])
   refine ⟨m, by rw [bestS, yB hx hr, Option.bind_some, decide_eq_false hlt, cond_false, h1], ?_, fun z hz => ?_⟩
   ·rcases List.mem_cons.1 h2 with rfl | h2
    ·exact qZb ..
    ·exact qZa _ (qZa _ h2)
   ·rcases List.mem_cons.1 hz with rfl | hz
    ·exact h3 z (qZb ..)
    ·rcases List.mem_cons.1 hz with rfl | hz
     ·have := h3 r (qZb ..); omega
     ·exact h3 z (qZa _ hz)
theorem IZ {s : GLs} (hf : FineS s) (hs : sheetB s = true) (ho : outB s [] = true) : ∃ z, y9 s = some (frI s z, 0) ∧ Good s (GLx.mk [] z) ∧ (z.length : Int) ≤ s.Rows ∧ ∀ y, IsS (possL [] s.Words 0) y → (y.length : Int) ≤ s.Rows → frI s z ≤ frI s y := by
 have h := sh_of hs
 obtain ⟨L, l1, l2, l3, l4⟩ := Q3 h ho rfl (by simp)
 have hg : ∀ z ∈ L, Good s (GLx.mk [] z) := fun z hz => by
  have hi := (l2 z).1 hz
  have hr := h.rows
  exact ⟨hf, hs, ho, hi.1, rfl, nF (show z.length < _ by omega)⟩
 have hne := vO (s := s) ho
 cases L with
 | nil =>
  have := (l2 [(possL [] s.Words 0).getLast hne]).2 ⟨⟨List.pairwise_singleton _ _, fun e he => by rw [List.mem_singleton.1 he]; exact List.getLast_mem hne, by rw [List.getLast?_eq_some_getLast hne]; rfl⟩, by have := h.rows; simp; omega⟩
  cases this
 | cons r L =>
  obtain ⟨m, h1, h2, h3⟩ := IY L r hg
  refine ⟨m, ?_, hg m h2, ((l2 m).1 h2).2, fun y hy hl => h3 y ((l2 y).2 ⟨hy, hl⟩)⟩
  simp only [y9, Ja s hf, hs, Option.bind_some, cond_true, l1]
  rw [bestS, h1, Option.bind_some, Option.bind_some, IW (hg m h2), Option.bind_some]
theorem tJ {e : GLe} {es : List GLe} : ∀ (fl : List FL), AL (e :: es) fl → e ∈ fl.map (·.1)
 | [], h => h.elim
 | f :: fl, h => by
  unfold AL at h
  by_cases he : e = f.1
  ·rw [he]; simp
  ·rw [if_neg he] at h
   exact qZa _ (tJ fl h)
theorem Jb : ∀ (es : List GLe) (fl : List FL) (r : Int) (m : Glm), m ∈ (mkS es fl r).1 → ∃ f ∈ fl, f.1.Word = m.word
 | es, [], r, m, h => by cases es <;> simp [mkS] at h
 | [], f :: fl, r, m, h => by simp [mkS] at h
 | e :: es, f :: fl, r, m, h => by
  by_cases he : e = f.1
  ·rw [rM he] at h
   rcases List.mem_cons.1 h with rfl | h
   ·exact ⟨f, qZb .., rfl⟩
   ·obtain ⟨g, hg, h2⟩ := Jb es fl (r + 1) m h
    exact ⟨g, qZa _ hg, h2⟩
  ·rw [rN he] at h
   rcases List.mem_cons.1 h with rfl | h
   ·exact ⟨f, qZb .., rfl⟩
   ·obtain ⟨g, hg, h2⟩ := Jb (e :: es) fl r m h
    exact ⟨g, qZa _ hg, h2⟩
theorem Jc {W al : Int} : ∀ (es : List GLe) (fl : List FL) (r : Int), AL es fl → es.Pairwise befE → (fl.map (·.1)).Pairwise befE → (∀ f ∈ fl, f.1.Word = W → f.1.Letters ≤ al) → (∀ e ∈ es, e.Word = W → e.Letters = al) → ∀ m ∈ (mkS es fl r).1, m.word = W → m.row = r + ((es.filter fun e => decide (e.Word < W)).length : Int)
 | [], [], r, _, _, _, _, _, m, h, _ => by simp [mkS] at h
 | [], _ :: _, _, h, _, _, _, _, _, _, _ => h.elim
 | _ :: _, [], _, h, _, _, _, _, _, _, _ => h.elim
 | e :: es, f :: fl, r, ha, he, hf, hl, hw, m, hm, hmw => by
  have hmem := tJ _ ha
  unfold AL at ha
  obtain ⟨e1, e2⟩ := List.pairwise_cons.1 he
  simp only [List.map_cons] at hf
  obtain ⟨f1, f2⟩ := List.pairwise_cons.1 hf
  have yC : W ≤ e.Word → ((e :: es).filter fun e => decide (e.Word < W)) = [] := fun hh => by
   rw [List.filter_eq_nil_iff]
   intro x hx
   rcases List.mem_cons.1 hx with rfl | hx
   ·simp only [decide_eq_true_eq]; omega
   ·have := e1 x hx
    unfold befE at this
    simp only [decide_eq_true_eq]; omega
  by_cases hef : e = f.1
  ·rw [if_pos hef] at ha
   rw [rM hef] at hm
   rcases List.mem_cons.1 hm with rfl | hm
   ·have h1 : f.1.Word = W := hmw
    rw [yC (by rw [hef]; omega)]
    simp
   ·obtain ⟨g, hg, hgw⟩ := Jb es fl (r + 1) m hm
    have hb := f1 g.1 (List.mem_map_of_mem hg)
    rw [← hef] at hb
    have hlt : e.Word < W := by
     rcases Int.lt_or_le e.Word W with h | h
     ·exact h
     ·exfalso
      have hgl := hl g (qZa _ hg) (by omega)
      have hew := hw e (qZb ..)
      unfold befE at hb
      omega
    have ih := Jc es fl (r + 1) ha e2 f2 (fun x hx => hl x (qZa _ hx)) (fun x hx => hw x (qZa _ hx)) m hm hmw
    rw [ih, List.filter_cons_of_pos (by simp only [decide_eq_true_eq]; exact hlt), List.length_cons]
    omega
  ·rw [if_neg hef] at ha
   rw [rN hef] at hm
   rcases List.mem_cons.1 hm with rfl | hm
   ·have h1 : f.1.Word = W := hmw
    obtain ⟨g, hg, hge⟩ := List.mem_map.1 (tJ fl ha)
    have hb := f1 g.1 (List.mem_map_of_mem hg)
    rw [hge] at hb
    rw [yC (by unfold befE at hb; omega)]
    simp
   ·exact Jc (e :: es) fl r ha he f2 (fun x hx => hl x (qZa _ hx)) hw m hm hmw
def wsum (s : GLs) (W : Int) : List Glm → Int
 | [] => 0
 | m :: ms => (if m.word = W then wd s m.sign else 0) + wsum s W ms
theorem yD {s : GLs} (h : Sh s) {W r : Int} : ∀ (ms : List Glm), Marks s ms → (∀ m ∈ ms, m.word = W → m.row = r) → wsum s W ms ≤ rowF s 0 r ms
 | [], _, _ => qZf _
 | m :: ms, hm, hr => by
  have ih := yD h ms (fun x hx => hm x (qZa _ hx)) fun x hx => hr x (qZa _ hx)
  have hs := hm m (qZb ..)
  have hw := vP h hs.1 hs.2
  have hp := spF_b h (k := 0) (qZf _) (by omega) m ms.head?
  have hh := h.hyp
  unfold rowF at ih ⊢
  rw [wsum, addL, List.sum_append]
  by_cases hc : m.word = W
  ·rw [if_pos hc, if_pos (hr m (qZb ..) hc)]
   cases m.hyphen with
   | true => simp only [cond_true, List.cons_append, List.nil_append, List.sum_cons, List.sum_nil]; omega
   | false => simp only [cond_false, List.append_nil, List.cons_append, List.nil_append, List.sum_cons, List.sum_nil]; omega
  ·rw [if_neg hc]
   split
   ·cases m.hyphen with
    | true => simp only [cond_true, List.cons_append, List.nil_append, List.sum_cons, List.sum_nil]; omega
    | false => simp only [cond_false, List.append_nil, List.cons_append, List.nil_append, List.sum_cons, List.sum_nil]; omega
   ·simp only [List.sum_nil]; omega
def fsum (s : GLs) (W : Int) : List FL → Int
 | [] => 0
 | f :: fl => (if f.1.Word = W then wd s f.2.1 else 0) + fsum s W fl
theorem Jd (s : GLs) (W : Int) : ∀ (es : List GLe) (fl : List FL) (r : Int), AL es fl → wsum s W (mkS es fl r).1 = fsum s W fl
 | [], [], r, _ => by simp [mkS, wsum, fsum]
 | [], _ :: _, _, h => h.elim
 | _ :: _, [], _, h => h.elim
 | e :: es, f :: fl, r, h => by
  unfold AL at h
  by_cases he : e = f.1
  ·rw [if_pos he] at h
   rw [rM he, wsum, fsum, Jd s W es fl (r + 1) h]
  ·rw [if_neg he] at h
   rw [rN he, wsum, fsum, Jd s W (e :: es) fl r h]
theorem Je (s : GLs) (W : Int) : ∀ (a b : List FL), fsum s W (a ++ b) = fsum s W a + fsum s W b
 | [], b => by simp [fsum]
 | f :: a, b => by rw [List.cons_append, fsum, fsum, Je s W a b]; omega
theorem Q4 (s : GLs) (W al : Int) : ∀ (cs : List Int) (k : Int), fsum s W (letW W al cs k) = (cs.map (wd s)).sum
 | [], k => by simp [letW, fsum]
 | c :: cs, k => by
  rw [letW, fsum, Q4 s W al cs (k + 1)]
  simp
theorem tK {s : GLs} (h : Sh s) (W : Int) : ∀ (fl : List FL), (∀ f ∈ fl, 0 ≤ f.2.1 ∧ f.2.1 < s.Widths.length) → 0 ≤ fsum s W fl
 | [], _ => qZf _
 | f :: fl, hf => by
  have ih := tK h W fl fun x hx => hf x (qZa _ hx)
  have hs := hf f (qZb ..)
  have hw := vP h hs.1 hs.2
  rw [fsum]
  split <;> omega
theorem Q5 {s : GLs} (h : Sh s) {w : GLw} : ∀ (ws : List GLw) (i : Int) (n : Nat), (∀ v ∈ ws, v ∈ s.Words) → ws[n]? = some w → (w.Signs.map (wd s)).sum ≤ fsum s (i + n) (ltrsL [] ws i)
 | [], _, _, _, hn => by cases hn
 | v :: ws, i, 0, hv, hn => by
  simp only [List.getElem?_cons_zero, Option.some.injEq] at hn
  subst hn
  have h2 : 0 ≤ fsum s (i + (0 : Nat)) (ltrsL [] ws (i + 1)) := tK h _ _ fun f hf => by
   obtain ⟨_, w, hw, hc⟩ := vH hf
   exact h.wsign w (hv w (qZa _ hw)) _ hc
  rw [show i + ((0 : Nat) : Int) = i by omega] at h2 ⊢
  rw [ltrsL, show ([] : List Int).contains i = false from rfl, cond_false, Je, Q4]
  omega
 | v :: ws, i, n + 1, hv, hn => by
  have ih := Q5 h ws (i + 1) n (fun u hu => hv u (qZa _ hu)) hn
  have h1 : 0 ≤ fsum s (i + (n + 1 : Nat)) (letW i (v.Signs.length : Int) v.Signs 0) := tK h _ _ fun f hf => h.wsign v (hv v (qZb ..)) _ (vG hf).2.2.2.1
  rw [ltrsL, show ([] : List Int).contains i = false from rfl, cond_false, Je]
  rw [show i + 1 + (n : Int) = i + ((n + 1 : Nat) : Int) by omega] at ih
  omega
theorem Jf {s : GLs} {z : List GLe} (g : Good s (GLx.mk [] z)) {n : Nat} {w : GLw} (hn : s.Words[n]? = some w) (hc : w.Cuts = []) : (w.Signs.map (wd s)).sum ≤ frI s z := by
 have h := g.sh
 have hal : AL z (ltrsL [] s.Words 0) := yE h g.ends
 have hwm : w ∈ s.Words := List.mem_of_getElem? hn
 have hwl := h.wlen w hwm
 have hsum := Q5 h s.Words 0 n (fun v hv => hv) hn
 rw [Int.zero_add, ← Jd s n z _ 0 hal] at hsum
 have hfl : ∀ f ∈ ltrsL [] s.Words 0, f.1.Word = (n : Int) → f.1.Letters ≤ w.Signs.length := fun f hf hfw => by
  have : ∀ (ws : List GLw) (i : Int) (n : Nat), ws[n]? = some w → f ∈ ltrsL [] ws i → f.1.Word = i + n → f.1.Letters ≤ w.Signs.length := by
   intro ws
   induction ws with
   | nil => intro i n hn; cases hn
   | cons v ws ih =>
    intro i n hn hf hfw
    rw [ltrsL, show ([] : List Int).contains i = false from rfl, cond_false] at hf
    rcases List.mem_append.1 hf with hf | hf
    ·have := vG hf
     cases n with
     | zero =>
      simp only [List.getElem?_cons_zero, Option.some.injEq] at hn
      subst hn; omega
     | succ n => omega
    ·have := (vH hf).1
     cases n with
     | zero => omega
     | succ n => exact ih (i + 1) n hn hf (by omega)
  exact this s.Words 0 n hn hf (by omega)
 have hes : ∀ e ∈ z, e.Word = (n : Int) → e.Letters = (w.Signs.length : Int) := fun e he hew => by
  obtain ⟨k, v, hk, _, hp⟩ := (BT [] s.Words 0 e).1 (g.ends.2.1 e he)
  have hpw := yc.1 hp
  have : k = n := by omega
  subst this
  rw [hn] at hk; cases hk
  rw [hc] at hpw
  rcases hpw.2 with hh | hh
  ·cases hh
  ·exact hh
 have hrow := Jc (W := (n : Int)) (al := (w.Signs.length : Int)) z _ 0 hal g.ends.1 (BH _ _ _) hfl hes
 have hle := yD h (W := (n : Int)) (r := 0 + ((z.filter fun e => decide (e.Word < (n : Int))).length : Int)) _ (yF g) hrow
 have hz := qA g.ends (vO g.out)
 have hlt : (z.filter fun e => decide (e.Word < (n : Int))).length < z.length := by
  rcases Nat.lt_or_ge (z.filter fun e => decide (e.Word < (n : Int))).length z.length with hh | hh
  ·exact hh
  ·exfalso
   have hall : ∀ e ∈ z, e.Word < (n : Int) := by
    have := List.length_filter_eq_length_iff.1 (Nat.le_antisymm (List.length_filter_le ..) hh)
    exact fun e he => by simpa using this e he
   have hlast := g.ends.2.2
   rw [Q6 [] s.Words 0 (s.Words.length - 1) (s.Words[s.Words.length - 1]'(by have := h.nw; omega)) (by simp) rfl (fun k h1 h2 => by omega)] at hlast
   have hin := List.mem_of_getLast? hlast
   have := hall _ hin
   have hnl := (List.getElem?_eq_some_iff.1 hn).1
   simp only at this
   omega
 have hfr := (tI (s := s) hz (W := frI s z)).1 (qZf _)
 have hget := Jg s 0 (marksOf s (GLx.mk [] z)) z.length 0 _ hlt
 have := hfr _ (List.mem_of_getElem? hget)
 exact Int.le_trans hsum (Int.le_trans hle this)
def yG (ag : GLs) : Option (Int × Int) := Option.bind (tL ag) (fun r1 => some ((List.length r1.1.Ends : Int), r1.2.2))
theorem Us (ag : GLs) (R : Int × Int) (h : yG ag = some R) : ad Tryz.prog G0 37 [.agg (cGLs ag)] (.tree (.tup [.lit (.int .i64 R.1), .lit (.int .i64 R.2)])) := by
 refine ad.runR mixed Tryz.call37 Tryz.func37 rfl (by simp [Tryz.ntmps37]; kernel_rfl) ?_
 obtain ⟨KF, h, kF, kN⟩ := ec h
 simp only [yG] at h
 obtain ⟨r2, o3, h⟩ := optI h kN
 try simp only [hs] at h
 simp only [vz, tyf, nm, seval]
 refine ktA (Ut _ _ o3) ?_
 refine bC (fun tm => tm 9 = .tup [.agg (cGLx r2.1), .lit (.int .i64 r2.2.1), .lit (.int .i64 r2.2.2)] ∧ True) (by refine ⟨?_, trivial⟩ <;> first | (simp only [ua, nm, seval] <;> rfl) | rfl) ?_
 rintro tm ⟨e4, _⟩
 try simp only [vz, tyf, e4, nm, seval]
 refine cG (x := (.tup [.lit (.int .i64 (List.length r2.1.Ends : Int)), .lit (.int .i64 r2.2.2)])) (by first | (simp only [Tryz.results37, resV, resL, aD, cX, cW, uw, cr, tyf, nm, seval] <;> rfl) | rfl) ?_
 obtain rfl := kF _ h
 refine cY ?_ ?_
 ·simp only [tre, ar, Bool.and_self]
 ·first | (simp only [outV, uw, eu, cr, tyf, nrm, au, e4, nm, seval] <;> rfl) | rfl
def vQ (ag : GLs) : Option (Bool × Bool) := Option.bind (yG ag) (fun r1 => cond (r1.2 == 0) (some (true, true)) (some (false, r1.2 == 5)))
theorem Uu (ag : GLs) (R : Bool × Bool) (h : vQ ag = some R) : ad Tryz.prog G0 47 [.agg (cGLs ag)] (.tree (.tup [.lit (.bool R.1), .lit (.bool R.2)])) := by
 refine ad.runR mixed Tryz.call47 Tryz.func47 rfl (by simp [Tryz.ntmps47]; kernel_rfl) ?_
 obtain ⟨KF, h, kF, kN⟩ := ec h
 simp only [vQ] at h
 obtain ⟨r2, o3, h⟩ := optI h kN
 try simp only [hs] at h
 simp only [vz, tyf, nm, seval]
 refine ktA (Us _ _ o3) ?_
 refine bC (fun tm => tm 8 = .tup [.lit (.int .i64 r2.1), .lit (.int .i64 r2.2)] ∧ True) (by refine ⟨?_, trivial⟩ <;> first | (simp only [ua, nm, seval] <;> rfl) | rfl) ?_
 rintro tm ⟨e4, _⟩
 cases d5 : (r2.2 == 0)
 ·simp only [d5, hs] at h
  try simp only [vz, tyf, e4, d5, nm, seval]
  refine cG (x := (.tup [.lit (.bool false), .lit (.bool (r2.2 == 5))])) (by first | (simp only [Tryz.results47, resV, resL, aD, cX, cW, uw, cr, tyf, d5, nm, seval] <;> rfl) | rfl) ?_
  obtain rfl := kF _ h
  refine cY ?_ ?_
  ·simp only [tre, ar, Bool.and_self]
  ·first | (simp only [outV, uw, eu, cr, tyf, nrm, au, e4, d5, nm, seval] <;> rfl) | rfl
 simp only [d5, hs] at h
 try simp only [vz, tyf, e4, d5, nm, seval]
 refine cG (x := (.tup [.lit (.bool true), .lit (.bool true)])) (by first | (simp only [Tryz.results47, resV, resL, aD, cX, cW, uw, cr, tyf, d5, nm, seval] <;> rfl) | rfl) ?_
 obtain rfl := kF _ h
 refine cY ?_ ?_
 ·simp only [tre, ar, Bool.and_self]
 ·first | (simp only [outV, uw, eu, cr, tyf, nrm, au, e4, d5, nm, seval] <;> rfl) | rfl
def tM (ag : GLs) (bh : Int) : Nat → Int → Int → Option (LOut (Bool) (Int × Int))
 | 0, _, _ => none
 | k0 + 1, bV, md => Option.bind (getI ag.Words bh) (fun x6 => cond (decide (md < (List.length x6.Signs : Int))) (Option.bind (getI x6.Signs md) (fun x7 => Option.bind (getI ag.Widths x7) (fun x8 => tM ag bh k0 (i64.wrap (bV + x8)) (i64.wrap (md + 1))))) (some (.go (bV, md))))
def BU (ag : GLs) (aV : Int) (bh : Int) : Option (Bool) := Option.bind (yH ag) (fun r1 => cond (r1) (Option.bind (xK ag) (fun r2 => cond (r2) (Option.bind (rE aV) (fun r3 => cond (r3) (cond (decide (bh < 0)) (some true) (cond (decide (bh ≥ (List.length ag.Words : Int))) (some true) (Option.bind (y9 ag) (fun r4 => Option.bind (vQ (GLs.mk ag.Widths ag.Pairs ag.Other ag.Gap ag.Hyphen ag.Words aV ag.Rows)) (fun r5 => cond (r4.2 != 0) (some false) (cond (r5.2) (cond (decide (r4.1 < 1)) (some false) (cond (r5.1 != (decide (aV ≥ r4.1))) (some false) (lbind (tM ag bh 1000000 0 0) (fun nW => some nW) (fun c9 => Option.bind (getI ag.Words bh) (fun Uv => cond (decide ((List.length Uv.Cuts : Int) > 0)) (some true) (cond (decide (c9.1 ≤ r4.1)) (some true) (some false)))) (fun _ _ => none)))) (some false))))))) (some true))) (some true))) (some true))
theorem Tf (ag : GLs) (aV : Int) (bh : Int) (R : Bool) (h : BU ag aV bh = some R) : ad Tryz.prog G0 15 [.agg (cGLs ag), .lit (.int .i64 aV), .lit (.int .i64 bh)] (.tree (.lit (.bool R))) := by
 refine ad.runR mixed Tryz.call15 Tryz.func15 rfl (by simp [Tryz.ntmps15]; kernel_rfl) ?_
 obtain ⟨KF, h, kF, kN⟩ := ec h
 simp only [BU] at h
 obtain ⟨vy, m4, h⟩ := optI h kN
 try simp only [hs] at h
 simp only [vz, tyf, nm, seval]
 refine ktA (Uw _ _ m4) ?_
 refine bC (fun tm => tm 1 = .lit (.int .i64 aV) ∧ tm 2 = .lit (.int .i64 bh) ∧ tm 3 = .ptr 0 0 ∧ tm 15 = .lit (.bool vy) ∧ True) (by refine ⟨?_, ?_, ?_, ?_, trivial⟩ <;> first | (simp only [ua, nm, seval] <;> rfl) | rfl) ?_
 rintro tm ⟨bS, fD, hP, gk, _⟩
 cases dv : (vy)
 ·simp only [dv, hs] at h
  simp only [vz, tyf, bS, fD, hP, gk, dv, nm, seval]
  refine ktree0 tN ?_
  try simp only [vz, tyf, bS, fD, hP, gk, dv, nm, seval]
  obtain rfl := kF _ h
  exact bz Tryz.results15 rfl
 simp only [dv, hs] at h
 obtain ⟨tx, jL, h⟩ := optI h kN
 try simp only [hs] at h
 simp only [vz, tyf, bS, fD, hP, gk, dv, nm, seval]
 refine ktA (TL _ _ jL) ?_
 refine bC (fun tm => tm 1 = .lit (.int .i64 aV) ∧ tm 2 = .lit (.int .i64 bh) ∧ tm 3 = .ptr 0 0 ∧ tm 17 = .lit (.bool false) ∧ tm 19 = .lit (.bool tx) ∧ True) (by refine ⟨bS, fD, hP, ?_, ?_, trivial⟩ <;> first | (simp only [ua, bS, fD, hP, gk, dv, nm, seval] <;> rfl) | rfl) ?_
 rintro tm ⟨ed, dK, eR, dV, dW, _⟩
 cases gL : (tx)
 ·simp only [gL, hs] at h
  simp only [vz, tyf, dv, ed, dK, eR, dV, dW, gL, nm, seval]
  refine ktree0 tN ?_
  try simp only [vz, tyf, dv, ed, dK, eR, dV, dW, gL, nm, seval]
  obtain rfl := kF _ h
  exact bz Tryz.results15 rfl
 simp only [gL, hs] at h
 obtain ⟨Q7, Ux, h⟩ := optI h kN
 try simp only [hs] at h
 simp only [vz, tyf, dv, ed, dK, eR, dV, dW, gL, nm, seval]
 refine ktA (PJ _ _ Ux) ?_
 refine bC (fun tm => tm 1 = .lit (.int .i64 aV) ∧ tm 2 = .lit (.int .i64 bh) ∧ tm 3 = .ptr 0 0 ∧ tm 22 = .lit (.bool false) ∧ tm 24 = .lit (.bool Q7) ∧ True) (by refine ⟨ed, dK, eR, ?_, ?_, trivial⟩ <;> first | (simp only [ua, dv, ed, dK, eR, dV, dW, gL, nm, seval] <;> rfl) | rfl) ?_
 rintro tm ⟨dM, bu, jW, jj, fx, _⟩
 cases lD : (Q7)
 ·simp only [lD, hs] at h
  simp only [vz, tyf, dv, gL, dM, bu, jW, jj, fx, lD, nm, seval]
  refine ktree0 tN ?_
  try simp only [vz, tyf, dv, gL, dM, bu, jW, jj, fx, lD, nm, seval]
  obtain rfl := kF _ h
  exact bz Tryz.results15 rfl
 simp only [lD, hs] at h
 cases fc : (decide (bh < 0))
 ·simp only [fc, hs] at h
  cases oA : (decide (bh ≥ (List.length ag.Words : Int)))
  ·simp only [oA, hs] at h
   obtain ⟨pS, nH, h⟩ := optI h kN
   try simp only [hs] at h
   simp only [vz, tyf, dv, gL, dM, bu, jW, jj, fx, lD, fc, oA, nm, seval]
   refine ktA (Uq _ _ nH) ?_
   refine bC (fun tm => tm 1 = .lit (.int .i64 aV) ∧ tm 2 = .lit (.int .i64 bh) ∧ tm 3 = .ptr 0 0 ∧ tm 41 = .tup [.lit (.int .i64 pS.1), .lit (.int .i64 pS.2)] ∧ True) (by refine ⟨dM, bu, jW, ?_, trivial⟩ <;> first | (simp only [ua, dv, gL, dM, bu, jW, jj, fx, lD, fc, oA, nm, seval] <;> rfl) | rfl) ?_
   rintro tm ⟨bJ, bF, bG, bx, _⟩
   obtain ⟨BV, qm, h⟩ := optI h kN
   try simp only [hs] at h
   simp only [vz, tyf, dv, gL, lD, fc, oA, bJ, bF, bG, bx, nm, seval]
   refine ktA (Uu _ _ qm) ?_
   refine bC (fun tm => tm 1 = .lit (.int .i64 aV) ∧ tm 2 = .lit (.int .i64 bh) ∧ tm 3 = .ptr 0 0 ∧ tm 7 = .lit (.int .i64 pS.1) ∧ tm 8 = .lit (.int .i64 pS.2) ∧ tm 49 = .tup [.lit (.bool BV.1), .lit (.bool BV.2)] ∧ True) (by refine ⟨bJ, bF, bG, ?_, ?_, ?_, trivial⟩ <;> first | (simp only [ua, dv, gL, lD, fc, oA, bJ, bF, bG, bx, nm, seval] <;> rfl) | rfl) ?_
   rintro tm ⟨gm, fK, gN, fF, eF, gJ, _⟩
   cases j1 : (pS.2 != 0)
   ·simp only [j1, hs] at h
    cases oB : (BV.2)
    ·simp only [oB, hs] at h
     have vJ := And.intro dv (And.intro gL (And.intro lD (And.intro fc (And.intro oA (And.intro j1 oB)))))
     try simp only [vz, tyf, vJ, gm, fK, gN, fF, eF, gJ, nm, seval]
     obtain rfl := kF _ h
     exact bz Tryz.results15 rfl
    simp only [oB, hs] at h
    have me := And.intro dv (And.intro gL (And.intro lD (And.intro fc (And.intro oA (And.intro j1 oB)))))
    cases ig : (decide (pS.1 < 1))
    ·simp only [ig, hs] at h
     cases iZ : (BV.1 != (decide (aV ≥ pS.1)))
     ·simp only [iZ, hs] at h
      simp only [vz, tyf, me, gm, fK, gN, fF, eF, gJ, ig, iZ, nm, seval]
      obtain ⟨Uy, h, Uz, Jh, U0, qB⟩ := gS h kN
      obtain ⟨U1, Ji, h⟩ := call3 h
      obtain ⟨U2, tO⟩ : ∃ I : Nat → St → Prop, I = (fun m st => ∃ (tP : Nat) (gq : Int) (gu : Int), tP = m ∧ st.df = [] ∧ 65 ≤ st.nx ∧ st.H 0 = some (.cells (some 28) (cGLs ag)) ∧ st.tm 2 = .lit (.int .i64 bh) ∧ st.tm 3 = .ptr 0 0 ∧ st.tm 7 = .lit (.int .i64 pS.1) ∧ st.tm 12 = .lit (.int .i64 gq) ∧ st.tm 13 = .lit (.int .i64 gu) ∧ Uy (U1 tP gq gu)) := ⟨_, rfl⟩
      refine loopK mixed (by kernel_rfl) U2 1000000 (by rw [tO]; refine ⟨1000000, 0, 0, rfl, rfl, (show 65 ≤ 65 by omega), ?_, fK, gN, fF, ?_, ?_, h⟩ <;> first | (simp only [ua, me, gm, fK, gN, fF, eF, gJ, ig, iZ, nm, seval] <;> rfl) | rfl | (simp only [ua, tyf, me, gm, fK, gN, fF, eF, gJ, ig, iZ, nm, seval] <;> rfl)) ?_
      rintro m ⟨tm, H, yI, df⟩ hinv
      rw [tO] at hinv
      obtain ⟨tP, gq, gu, rfl, hdf, Jj, qC, hO, iG, iH, fa, fv, h⟩ := hinv
      simp only at hdf Jj qC hO iG iH fa fv
      have rU := gT (m := 65) (b := yI) (by omega)
      subst hdf Ji
      cases tP with
      | zero =>
       simp only [tM, hs, reduceCtorEq] at h
       exact absurd h qB
      | succ tP =>
       simp only [tM, hs, reduceCtorEq] at h
       obtain ⟨Q8, rV, h⟩ := optI h qB
       try simp only [hs] at h
       cases oC : (decide (gu < (List.length Q8.Signs : Int)))
       ·simp only [oC, hs] at h
        replace h := Jh _ h
        try dsimp only at h
        try simp only [rV, hs] at h
        cases BW : (decide ((List.length Q8.Cuts : Int) > 0))
        ·simp only [BW, hs] at h
         have Jk := And.intro me (And.intro ig (And.intro iZ (And.intro rU (And.intro qC (And.intro oC BW)))))
         cases yJ : (decide (gq ≤ pS.1))
         ·simp only [yJ, hs] at h
          try simp only [vz, tyf, Jk, hO, iG, iH, fa, fv, (aE rV), yJ, nm, seval]
          obtain rfl := kF _ h
          exact bz Tryz.results15 rfl
         simp only [yJ, hs] at h
         simp only [vz, tyf, Jk, hO, iG, iH, fa, fv, (aE rV), yJ, nm, seval]
         refine ktree0 tN ?_
         try simp only [vz, tyf, Jk, hO, iG, iH, fa, fv, (aE rV), yJ, nm, seval]
         obtain rfl := kF _ h
         exact bz Tryz.results15 rfl
        simp only [BW, hs] at h
        have Q9 := And.intro me (And.intro ig (And.intro iZ (And.intro rU (And.intro qC (And.intro oC BW)))))
        simp only [vz, tyf, Q9, hO, iG, iH, fa, fv, (aE rV), nm, seval]
        refine ktree0 tN ?_
        try simp only [vz, tyf, Q9, hO, iG, iH, fa, fv, (aE rV), nm, seval]
        obtain rfl := kF _ h
        exact bz Tryz.results15 rfl
       simp only [oC, hs] at h
       simp only [vz, tyf, me, ig, iZ, rU, hO, iG, iH, fa, fv, qC, (aE rV), oC, nm, seval]
       refine qf (fun tm => tm 2 = .lit (.int .i64 bh) ∧ tm 3 = .ptr 0 0 ∧ tm 7 = .lit (.int .i64 pS.1) ∧ tm 12 = .lit (.int .i64 gq) ∧ tm 13 = .lit (.int .i64 gu) ∧ True) (by refine ⟨hO, iG, iH, fa, fv, trivial⟩ <;> first | (simp only [ua, me, ig, iZ, rU, hO, iG, iH, fa, fv, qC, oC, nm, seval] <;> rfl) | rfl | (simp only [ua, tyf, me, ig, iZ, rU, hO, iG, iH, fa, fv, qC, oC, nm, seval] <;> rfl)) ?_
       rintro tm ⟨jg, lh, fZ, iI, eT, _⟩
       obtain ⟨Xv, U3, h⟩ := optI h qB
       try simp only [hs] at h
       obtain ⟨U4, v8, h⟩ := optI h qB
       try simp only [hs] at h
       simp only [vz, tyf, me, ig, iZ, rU, qC, (aE rV), oC, jg, lh, fZ, iI, eT, (aC U3), (aC v8), nm, seval]
       exact ⟨tP, qZc _, by rw [tO]; refine ⟨tP, i64.wrap (gq + U4), i64.wrap (gu + 1), rfl, rfl, (show 65 ≤ yI + 28 by omega), ?_, jg, lh, fZ, ?_, ?_, (by first | exact h | (simp only [me, ig, iZ, oC]; exact h))⟩ <;> first | (simp only [ua, me, ig, iZ, rU, qC, oC, jg, lh, fZ, iI, eT, nm, seval] <;> rfl) | rfl | (simp only [ua, tyf, me, ig, iZ, rU, qC, oC, jg, lh, fZ, iI, eT, nm, seval] <;> rfl)⟩
     simp only [iZ, hs] at h
     try simp only [vz, tyf, me, gm, fK, gN, fF, eF, gJ, ig, iZ, nm, seval]
     obtain rfl := kF _ h
     exact bz Tryz.results15 rfl
    simp only [ig, hs] at h
    try simp only [vz, tyf, me, gm, fK, gN, fF, eF, gJ, ig, nm, seval]
    obtain rfl := kF _ h
    exact bz Tryz.results15 rfl
   simp only [j1, hs] at h
   try simp only [vz, tyf, dv, gL, lD, fc, oA, gm, fK, gN, fF, eF, gJ, j1, nm, seval]
   obtain rfl := kF _ h
   exact bz Tryz.results15 rfl
  simp only [oA, hs] at h
  simp only [vz, tyf, dv, gL, dM, bu, jW, jj, fx, lD, fc, oA, nm, seval]
  refine ktree0 tN ?_
  try simp only [vz, tyf, dv, gL, dM, bu, jW, jj, fx, lD, fc, oA, nm, seval]
  obtain rfl := kF _ h
  exact bz Tryz.results15 rfl
 simp only [fc, hs] at h
 simp only [vz, tyf, dv, gL, dM, bu, jW, jj, fx, lD, fc, nm, seval]
 refine ktree0 tN ?_
 try simp only [vz, tyf, dv, gL, dM, bu, jW, jj, fx, lD, fc, nm, seval]
 obtain rfl := kF _ h
 exact bz Tryz.results15 rfl
def wideS (s : GLs) (w : Int) : GLs := GLs.mk s.Widths s.Pairs s.Other s.Gap s.Hyphen s.Words w s.Rows
theorem QA (s : GLs) (w k r : Int) : ∀ ms : List Glm, addL (wideS s w) k r ms = addL s k r ms
 | [] => rfl
 | m :: ms => by
  rw [addL, addL, QA s w k r ms]
  rfl
theorem QB (s : GLs) (w k : Int) (ms : List Glm) : ∀ (n : Nat) (r : Int), rowsOk (wideS s w) k ms n r = true ↔ ∀ y ∈ rowsL s k ms n r, y ≤ w
 | 0, r => by simp [rowsOk, rowsL]
 | n + 1, r => by
  simp only [rowsOk, rowsL, Bool.and_eq_true, decide_eq_true_eq, QB s w k ms n, List.mem_cons, forall_eq_or_imp]
  rw [show rowF (wideS s w) k r ms = rowF s k r ms by unfold rowF; rw [QA]]
  rfl
theorem QC (s : GLs) (w : Int) {z : List GLe} (hz : z ≠ []) : fitS (wideS s w) (GLx.mk [] z) 0 = true ↔ frI s z ≤ w ∧ (z.length : Int) ≤ s.Rows := by
 unfold fitS
 rw [Bool.and_eq_true, show marksOf (wideS s w) (GLx.mk [] z) = marksOf s (GLx.mk [] z) from rfl, QB, decide_eq_true_eq, tI hz]
 exact Iff.rfl
theorem Jl {s : GLs} (hf : FineS s) (hs : sheetB s = true) (ho : outB s [] = true) : ∃ b, vQ s = some (b, true) ∧ (b = true ↔ ∃ y, IsS (possL [] s.Words 0) y ∧ (y.length : Int) ≤ s.Rows ∧ fitS s (GLx.mk [] y) 0 = true) := by
 obtain ⟨L, FL, l1, l2, l3, l4, l5, l6, l7, l8, l9⟩ := Jm hf hs ho
 rcases l9 with ⟨hFL, hS⟩ | ⟨m, A, B, hFL, hS, hA, hB⟩
 ·refine ⟨false, by simp only [vQ, yG, hS, Option.bind_some]; rfl, ?_⟩
  constructor
  ·intro h; cases h
  ·rintro ⟨y, h1, h2, h3⟩
   obtain ⟨l, hl, _⟩ := l8 y ((l3 y).2 ⟨h1, h2⟩) h3
   rw [hFL] at hl; cases hl
 ·refine ⟨true, by simp only [vQ, yG, hS, Option.bind_some]; rfl, ?_⟩
  have hm : m ∈ FL := by rw [hFL]; simp
  obtain ⟨a1, a2, K, _, a4⟩ := l7 m hm
  have hmL : m.lx.Ends ∈ L := l6.subset (List.mem_map_of_mem hm)
  have he : m.lx = GLx.mk [] m.lx.Ends := by
   rw [show m.lx = GLx.mk m.lx.Out m.lx.Ends from rfl, a2]
  have hfit := Jn a4
  rw [he] at hfit
  exact ⟨fun _ => ⟨_, ((l3 _).1 hmL).1, ((l3 _).1 hmL).2, hfit⟩, fun _ => rfl⟩
theorem QD {s : GLs} (h : Sh s) {word : Int} {w : GLw} (hw : getI s.Words word = some w) : ∀ (p : List Int) (k : Nat) (a i : Int), 0 ≤ i → w.Signs.drop i.toNat = p → p.length < k → 0 ≤ a → a + 20 * p.length ≤ 1000000 → i ≤ 1000 → ∃ j, tM s word k a i = some (.go (a + (p.map (wd s)).sum, j))
 | p, 0, a, i, _, _, hk, _, _, _ => by omega
 | [], k + 1, a, i, h0, hd, hk, ha, hb, hi => by
  have := congrArg List.length hd
  simp only [List.length_drop, List.length_nil] at this
  refine ⟨i, ?_⟩
  rw [tM, hw, Option.bind_some, decide_eq_false (by omega), cond_false]
  simp
 | c :: p, k + 1, a, i, h0, hd, hk, ha, hb, hi => by
  have hg := dU h0 hd
  have hlt := yK hg
  have hwm := Jo hw
  have hc := h.wsign w hwm c (Jo hg)
  have hwl := h.wlen w hwm
  have oy := vP h hc.1 hc.2
  simp only [List.length_cons] at hk hb
  obtain ⟨j, ih⟩ := QD h hw p k (a + wd s c) (i + 1) (by omega) (bY h0 hd) (by omega) (by omega) (by omega) (by omega)
  refine ⟨j, ?_⟩
  rw [tM, hw, Option.bind_some, decide_eq_true hlt.2, cond_true, hg, Option.bind_some, oy.1, Option.bind_some, lY (by omega) (by omega), lY (by omega) (by omega), ih]
  simp only [List.map_cons, List.sum_cons]
  congr 3
  omega
theorem Tg (s : GLs) (wide word : Int) (h : FineS s) : BU s wide word = some true := by
 obtain ⟨b, hb⟩ := Jp s h.2.2.1
 simp only [BU, hb, Option.bind_some, Jq s h]
 cases b with
 | false => rfl
 | true =>
 rw [cond_true]
 cases hs : sheetB s with
 | false => rfl
 | true =>
 rw [cond_true]
 have hfr : rE wide = some (inB 1 400 wide) := by simp only [rE, in_eq, Option.bind_some]
 rw [hfr, Option.bind_some]
 cases hwd : inB 1 400 wide with
 | false => rfl
 | true =>
 rw [cond_true]
 by_cases w0 : word < 0
 ·rw [decide_eq_true w0]; rfl
 rw [decide_eq_false w0, cond_false]
 by_cases w1 : word ≥ (s.Words.length : Int)
 ·rw [decide_eq_true w1]; rfl
 rw [decide_eq_false w1, cond_false]
 have hsh := sh_of hs
 have ho : outB s [] = true := by
  have := hsh.nw
  have h0 : decide ((([] : List Int).length : Int) < s.Words.length) = true := decide_eq_true (by simp; omega)
  unfold outB
  rw [h0]
  rfl
 obtain ⟨z, n1, n2, n3, n4⟩ := IZ h hs ho
 have hs' : sheetB (wideS s wide) = true := by
  have := hs
  unfold sheetB at this ⊢
  rw [Bool.and_eq_true, Bool.and_eq_true] at this ⊢
  exact ⟨⟨this.1.1, hwd⟩, this.2⟩
 have ho' : outB (wideS s wide) [] = true := ho
 obtain ⟨f, f1, f2⟩ := Jl (s := wideS s wide) h hs' ho'
 have hz := qA n2.ends (vO ho)
 have hfn : f = decide (wide ≥ frI s z) := by
  rw [Bool.eq_iff_iff, f2, decide_eq_true_eq]
  constructor
  ·rintro ⟨y, y1, y2, y3⟩
   have := ((QC s wide (qA y1 (vO ho))).1 y3).1
   have := n4 y y1 y2
   omega
  ·intro hh
   exact ⟨z, n2.ends, n3, (QC s wide hz).2 ⟨hh, n3⟩⟩
 have hpos : 1 ≤ frI s z := by
  have hg := (tI (s := s) hz (W := frI s z)).1 (qZf _)
  have hzl : 0 < z.length := by
   cases z with
   | nil => exact (hz rfl).elim
   | cons _ _ => simp
  have hp := yL hsh (qZf _) (by omega) (marksOf s (GLx.mk [] z)) (yF n2) (Jr n2 0 (qZf _) (by simp only; omega))
  have := hg _ (List.mem_of_getElem? (Jg s 0 (marksOf s (GLx.mk [] z)) z.length 0 0 hzl))
  rw [show (0 : Int) + ((0 : Nat) : Int) = 0 from rfl] at this
  omega
 obtain ⟨k, rfl⟩ := Int.eq_ofNat_of_zero_le (show 0 ≤ word by omega)
 have hk : k < s.Words.length := by omega
 have hget : s.Words[k]? = some s.Words[k] := qZi hk
 have hgI := Js hget
 have hwl := hsh.wlen _ (List.mem_of_getElem? hget)
 obtain ⟨j, hl⟩ := QD hsh hgI s.Words[k].Signs 1000000 0 0 (qZf _) rfl (by omega) (qZf _) (by omega) (by omega)
 rw [Int.zero_add] at hl
 rw [n1, show GLs.mk s.Widths s.Pairs s.Other s.Gap s.Hyphen s.Words wide s.Rows = wideS s wide from rfl, f1]
 simp only [Option.bind_some]
 rw [show ((0 : Int) != 0) = false from rfl, cond_false, cond_true, decide_eq_false (show ¬ (frI s z < 1) by omega), cond_false, hfn, bne_self_eq_false, cond_false, hl, og, hgI]
 simp only [Option.bind_some]
 by_cases hc : (s.Words[k].Cuts.length : Int) > 0
 ·rw [decide_eq_true hc]; rfl
 ·rw [decide_eq_false hc, cond_false, decide_eq_true (Jf n2 hget (List.length_eq_zero_iff.1 (by omega)))]
  rfl
end Go.V
end
