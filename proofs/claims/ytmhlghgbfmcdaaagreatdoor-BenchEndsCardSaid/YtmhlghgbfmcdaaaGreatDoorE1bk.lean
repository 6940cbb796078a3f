/- Part of a proof. -/
import Derived.Test.YtmhlghgbfmcdaaaGreatDoorE1bj
set_option linter.all false
set_option maxRecDepth 4000
set_option maxHeartbeats 40000000
section
namespace Go.V
open Go Go.Proofs IntKind
def la (rc : GBk → (List Int) → Int → Int → (List (GBe × Int)) → Option ((Int) × List (GBe × Int))) (xb : GBk) (xp : List Int) (xh : Int) : List Int → Int → (List Int) → (List (GBe × Int)) → Option (LOut ((List Int) × List (GBe × Int)) ((List Int) × (List (GBe × Int))))
 | [], c9, bL, bw => some (.go (bL, bw))
 | e0 :: p0, c9, bL, bw => Option.bind (rc xb xp e0 xh bw) (fun r2 => cond (roomOk 8 (List.length (bL ++ [r2.1]))) (la rc xb xp xh p0 (c9 + 1) (bL ++ [r2.1]) r2.2) none)
def pI (rc : GBk → (List Int) → Int → Int → (List (GBe × Int)) → Option ((Int) × List (GBe × Int))) (xb : GBk) (xp : List Int) (xss : List Int) (xh : Int) (l0 : List (GBe × Int)) : Option ((List Int) × List (GBe × Int)) := cond (aC xss) (lbind (la rc xb xp xh xss 0 ([] : List Int) l0) (fun r4 => some r4) (fun c3 => some (c3.1, c3.2)) (fun _ _ => none)) none
theorem Hr (rc : GBk → (List Int) → Int → Int → (List (GBe × Int)) → Option ((Int) × List (GBe × Int))) (rc_ok : ∀ (xb : GBk) (xp : List Int) (xs : Int) (xh : Int) (l0 : List (GBe × Int)) (R : (Int) × List (GBe × Int)), rc xb xp xs xh l0 = some R → VUpd Tryz.prog G0 118 (fun β => [.agg [.lit (.int .i64 xb.Apprentices), .sl (aa eI xb.Boards) (List.length xb.Boards) false, .sl (aa cGBs xb.Strokes) (List.length xb.Strokes) false, .sl (aa eI xp) (List.length xp) false, .mp β], .lit (.int .i64 xs), .lit (.int .i64 xh)]) (encM aP cW l0) (encM aP cW R.2) (fun _ => .lit (.int .i64 R.1))) (xb : GBk) (xp : List Int) (xss : List Int) (xh : Int) (l0 : List (GBe × Int)) (R : (List Int) × List (GBe × Int)) (h : pI rc xb xp xss xh l0 = some R) : VUpd Tryz.prog G0 106 (fun β => [.agg [.lit (.int .i64 xb.Apprentices), .sl (aa eI xb.Boards) (List.length xb.Boards) false, .sl (aa cGBs xb.Strokes) (List.length xb.Strokes) false, .sl (aa eI xp) (List.length xp) false, .mp β], .sl (aa eI xss) (List.length xss) false, .lit (.int .i64 xh)]) (encM aP cW l0) (encM aP cW R.2) (fun _ => .sl (aa eI R.1) (List.length R.1) false) := by
 intro bh nx hlt
 have aR := hY (β := bh) (nx := nx) hlt
 refine ar.run mixed Tryz.call106 Tryz.func106 rfl (by simp [Tryz.ntmps106]; kernel_rfl) ?_
 obtain ⟨KF, h, kF, kN⟩ := cA h
 simp only [pI] at h
 cases g6 : (aC xss)
 ·simp only [g6, hs] at h
  exact absurd h kN
 simp only [g6, hs] at h
 simp only [vz, mq, mqm, vsi, tyf, mqt, aR, g6, nm, seval]
 obtain ⟨K5, h, qP, lS, wD, km⟩ := eN h kN
 obtain ⟨f5, nc, h⟩ := call4 h
 obtain ⟨I5, gC⟩ : ∃ I : Nat → St → Prop, I = (fun m st => ∃ (p5 : List Int) (cj : Int) (bI : List Int) (cP : List (GBe × Int)) (lb : VV), m = List.length p5 ∧ 0 ≤ cj ∧ List.drop (Int.toNat cj) xss = p5 ∧ st.df = [] ∧ nx + 6 ≤ st.nx ∧ st.H bh = some (.map (encM aP cW cP)) ∧ st.H nx = some (.cells (some 92) ((cGBk xb) ++ [.sl (aa eI xp) (List.length xp) false] ++ [.mp bh])) ∧ st.tm 2 = .lit (.int .i64 xh) ∧ st.tm 3 = .ptr nx 0 ∧ st.tm 10 = .sl (aa eI xss) (List.length xss) false ∧ st.tm 11 = .lit (.int .i64 (List.length xss : Int)) ∧ st.tm 7 = lb ∧ st.tm 12 = .lit (.int .i64 cj) ∧ ((∃ (β : Nat) (el : Option TypeId), lb = .ref β 0 (List.length bI) 1 (List.length bI) ∧ β < st.nx ∧ β ≠ bh ∧ β ≠ nx ∧ st.H β = some (.cells el (aa eI bI))) ∨ (lb = .lit (.slice none 0 0) ∧ bI = [])) ∧ K5 (f5 p5 cj bI cP)) := ⟨_, rfl⟩
 refine loopK mixed (by kernel_rfl) I5 (List.length xss) (by rw [gC]; refine ⟨xss, 0, ([] : List Int), l0, .lit (.slice none 0 0), rfl, Int.le_refl _, rfl, rfl, (show nx + 6 ≤ nx + 6 by omega), ?_, ?_, ?_, ?_, ?_, ?_, ?_, ?_, Or.inr ⟨rfl, rfl⟩, h⟩ <;> first | (simp only [ua, bO, aR, nm, seval] <;> rfl) | rfl) ?_
 rintro m ⟨tm, H, gp, df⟩ hinv
 rw [gC] at hinv
 obtain ⟨p5, cj, bI, cP, lb, rfl, cQ, du, hdf, nf, H7, H8, e9, aQ, aT, bj, ba, bx, lT, h⟩ := hinv
 simp only at hdf nf H7 H8 e9 aQ aT bj ba bx lT
 have gV := ng (a := nx) (m := 6) (b := gp) (by omega)
 have cw := hY (β := bh) (nx := gp) (by omega)
 subst hdf nc
 rcases lT with ⟨qQ, lU, rfl, wE, nh, ni, ld⟩ | ⟨rfl, rfl⟩
 ·have lf := hY wE
  have fK := ne_f nh
  have fL := ne_f ni
  cases p5 with
  | nil =>
   have dK : (decide (cj < (List.length xss : Int))) = false := eg cQ du
   simp only [la, hs, reduceCtorEq] at h
   replace h := lS _ h
   try dsimp only at h
   try simp only [hs] at h
   try simp only [vz, mq, mqm, vsi, tyf, mqt, aR, g6, gV, cw, e9, aQ, aT, bj, ba, bx, H7, H8, lf, ld, fK, fL, dK, nm, seval]
   refine cL (x := (.ref qQ 0 (List.length bI) 1 (List.length bI))) (by first | (simp only [Tryz.results106, resV, resL, resV1, cD, cE, uw, cr, tyf, mqt, aR, g6, gV, cw, H7, H8, lf, ld, fK, fL, dK, nm, seval] <;> rfl) | rfl) ?_
   obtain rfl := kF _ h
   refine ⟨(by first | rfl | assumption | (simp only [aV, aX, aR, gV, cw, H7, H8, lf, ld, fK, fL, nm, seval] <;> rfl)), ?_⟩
   exact wF (by first | rfl | assumption | (simp only [aV, aX, aR, gV, cw, H7, H8, lf, ld, fK, fL, nm, seval] <;> rfl)) (by first | rfl | assumption | (simp only [aV, aX, aR, gV, cw, H7, H8, lf, ld, fK, fL, nm, seval] <;> rfl)) eI_ok (fun _ => rfl)
  | cons e5 p5 =>
   have nj : (decide (cj < (List.length xss : Int))) = true := eh cQ du
   have lg := cX cQ du
   have j5 := dO cQ du g6
   simp only [la, hs, reduceCtorEq] at h
   obtain ⟨gD, iE, h⟩ := optI h km
   try simp only [hs] at h
   simp only [vz, mq, mqm, vsi, tyf, mqt, aR, g6, gV, cw, e9, aQ, aT, bj, ba, bx, H7, H8, lf, ld, fK, fL, nj, (aB lg), j5, nm, seval]
   refine kupd (VUpd.at (β := bh) (y := (fun _ => .lit (.int .i64 gD.1))) (rc_ok _ _ _ _ _ _ iE) (by omega) (by first | rfl | assumption | (simp only [aV, aX, aR, gV, cw, H7, H8, lf, ld, fK, fL, nm, seval] <;> rfl)) (by first | rfl | (simp only [nrm, aL, @dk, @fX] <;> rfl)) (gF (fun _ => rfl) _)) ?_
   refine gW (fun tm => tm 2 = .lit (.int .i64 xh) ∧ tm 3 = .ptr nx 0 ∧ tm 10 = .sl (aa eI xss) (List.length xss) false ∧ tm 11 = .lit (.int .i64 (List.length xss : Int)) ∧ tm 12 = .lit (.int .i64 cj) ∧ tm 16 = .ref qQ 0 (List.length bI) 1 (List.length bI) ∧ tm 20 = .lit (.int .i64 gD.1) ∧ True) (by refine ⟨e9, aQ, aT, bj, bx, ?_, ?_, trivial⟩ <;> first | (simp only [ua, bO, aR, gV, cw, e9, aQ, aT, bj, ba, bx, H7, H8, lf, ld, fK, fL, nj, j5, nm, seval] <;> rfl) | rfl) ?_
   rintro tm ⟨bk, cM, ca, ck, cu, dm, fw, _⟩
   have eE := And.intro aR (And.intro g6 (And.intro gV (And.intro cw (And.intro H7 (And.intro H8 (And.intro lf (And.intro ld (And.intro fK (And.intro fL (And.intro nj j5))))))))))
   cases eO : (roomOk 8 (List.length (bI ++ [gD.1])))
   ·simp only [eO, hs] at h
    exact absurd h km
   simp only [eO, hs] at h
   simp only [vz, mq, mqm, vsi, tyf, mqt, eE, (aB lg), bk, cM, ca, ck, cu, dm, fw, eO, nm, seval]
   refine k_app (w := 1) (enc := eI) (xs := bI) (ys := ([gD.1])) (el := lU) (gq := (some 3)) (fun _ => rfl) fx eP Tryz.underlying22 (by first | rfl | assumption | (simp only [aV, aX, bP, eE, nm, seval] <;> rfl) | (simp only [aV, aX, dp, dL, dv, dw, tyf, mqt, eE, (aB lg), bk, cM, ca, ck, cu, dm, fw, eO, nm, seval]; done)) (by first | rfl | assumption | (simp only [aV, aX, bP, eE, nm, seval] <;> rfl) | (simp only [aV, aX, dp, dL, dv, dw, tyf, mqt, eE, (aB lg), bk, cM, ca, ck, cu, dm, fw, eO, nm, seval]; done)) (Nat.zero_lt_succ _) eO ?_
   simp only [vz, mq, mqm, vsi, tyf, mqt, eE, (aB lg), bk, cM, ca, ck, cu, dm, fw, eO, nm, seval]
   exact ⟨List.length p5, Nat.lt_succ_self _, by rw [gC]; refine ⟨p5, cj + 1, (bI ++ [gD.1]), gD.2, .ref (gp + 10) 0 (List.length (bI ++ [gD.1])) 1 (List.length (bI ++ [gD.1])), rfl, Int.le_trans cQ (Int.le_add_one (Int.le_refl _)), bV cQ du, rfl, (show nx + 6 ≤ gp + 14 by omega), ?_, ?_, bk, cM, ca, ck, ?_, ?_, Or.inl ⟨gp + 10, (sameEl lU 3), rfl, (by first | omega | (simp only [nm, seval]; done) | (simp only [nm, seval]; omega)), (by first | omega | (intro hh; simp only [eE, reduceCtorEq] at hh)), (by first | omega | (intro hh; simp only [eE, reduceCtorEq] at hh)), ?_⟩, (by first | exact h | (simp only [eE]; exact h))⟩ <;> first | (simp only [ua, bO, eE, bk, cM, ca, ck, cu, dm, fw, nm, seval] <;> rfl) | rfl⟩
 ·cases p5 with
  | nil =>
   have pJ : (decide (cj < (List.length xss : Int))) = false := eg cQ du
   simp only [la, hs, reduceCtorEq] at h
   replace h := lS _ h
   try dsimp only at h
   try simp only [hs] at h
   try simp only [vz, mq, mqm, vsi, tyf, mqt, aR, g6, gV, cw, e9, aQ, aT, bj, ba, bx, H7, H8, pJ, nm, seval]
   refine cL (x := (.lit (.slice none 0 0))) (by first | (simp only [Tryz.results106, resV, resL, resV1, cD, cE, uw, cr, tyf, mqt, aR, g6, gV, cw, H7, H8, pJ, nm, seval] <;> rfl) | rfl) ?_
   obtain rfl := kF _ h
   refine ⟨(by first | rfl | assumption | (simp only [aV, aX, aR, gV, cw, H7, H8, nm, seval] <;> rfl)), ?_⟩
   exact sq_of wG
  | cons e5 p5 =>
   have hZ : (decide (cj < (List.length xss : Int))) = true := eh cQ du
   have uO := cX cQ du
   have wH := dO cQ du g6
   simp only [la, hs, reduceCtorEq] at h
   obtain ⟨dq, kn, h⟩ := optI h km
   try simp only [hs] at h
   simp only [vz, mq, mqm, vsi, tyf, mqt, aR, g6, gV, cw, e9, aQ, aT, bj, ba, bx, H7, H8, hZ, (aB uO), wH, nm, seval]
   refine kupd (VUpd.at (β := bh) (y := (fun _ => .lit (.int .i64 dq.1))) (rc_ok _ _ _ _ _ _ kn) (by omega) (by first | rfl | assumption | (simp only [aV, aX, aR, gV, cw, H7, H8, nm, seval] <;> rfl)) (by first | rfl | (simp only [nrm, aL, @dk, @fX] <;> rfl)) (gF (fun _ => rfl) _)) ?_
   refine gW (fun tm => tm 2 = .lit (.int .i64 xh) ∧ tm 3 = .ptr nx 0 ∧ tm 10 = .sl (aa eI xss) (List.length xss) false ∧ tm 11 = .lit (.int .i64 (List.length xss : Int)) ∧ tm 12 = .lit (.int .i64 cj) ∧ tm 16 = .lit (.slice none 0 0) ∧ tm 20 = .lit (.int .i64 dq.1) ∧ True) (by refine ⟨e9, aQ, aT, bj, bx, ?_, ?_, trivial⟩ <;> first | (simp only [ua, bO, aR, gV, cw, e9, aQ, aT, bj, ba, bx, H7, H8, hZ, wH, nm, seval] <;> rfl) | rfl) ?_
   rintro tm ⟨cb, cg, cY, cy, cZ, cF, cv, _⟩
   have lV := And.intro aR (And.intro g6 (And.intro gV (And.intro cw (And.intro H7 (And.intro H8 (And.intro hZ wH))))))
   cases pK : (roomOk 8 (List.length (([] : List Int) ++ [dq.1])))
   ·simp only [pK, hs] at h
    exact absurd h km
   simp only [pK, hs] at h
   simp only [vz, mq, mqm, vsi, tyf, mqt, lV, (aB uO), cb, cg, cY, cy, cZ, cF, cv, pK, nm, seval]
   refine nk (w := 1) (enc := eI) (ys := ([dq.1])) (gq := (some 3)) (fun _ => rfl) fx eP Tryz.underlying22 (by first | rfl | assumption | (simp only [aV, aX, bP, lV, nm, seval] <;> rfl) | (simp only [aV, aX, dp, dL, dv, dw, tyf, mqt, lV, (aB uO), cb, cg, cY, cy, cZ, cF, cv, pK, nm, seval]; done)) (Nat.zero_lt_succ _) pK ?_
   simp only [vz, mq, mqm, vsi, tyf, mqt, lV, (aB uO), cb, cg, cY, cy, cZ, cF, cv, pK, nm, seval]
   exact ⟨List.length p5, Nat.lt_succ_self _, by rw [gC]; refine ⟨p5, cj + 1, (([] : List Int) ++ [dq.1]), dq.2, .ref (gp + 10) 0 (List.length (([] : List Int) ++ [dq.1])) 1 (List.length (([] : List Int) ++ [dq.1])), rfl, Int.le_trans cQ (Int.le_add_one (Int.le_refl _)), bV cQ du, rfl, (show nx + 6 ≤ gp + 14 by omega), ?_, ?_, cb, cg, cY, cy, ?_, ?_, Or.inl ⟨gp + 10, (some 3), rfl, (by first | omega | (simp only [nm, seval]; done) | (simp only [nm, seval]; omega)), (by first | omega | (intro hh; simp only [lV, reduceCtorEq] at hh)), (by first | omega | (intro hh; simp only [lV, reduceCtorEq] at hh)), ?_⟩, (by first | exact h | (simp only [lV]; exact h))⟩ <;> first | (simp only [ua, bO, lV, cb, cg, cY, cy, cZ, cF, cv, nm, seval] <;> rfl) | rfl⟩
def qR (rc : GBk → (List Int) → Int → Int → (List (GBe × Int)) → Option ((Int) × List (GBe × Int))) (xb : GBk) (xp : List Int) (xs : Int) (xh : Int) (l0 : List (GBe × Int)) : Option ((Int) × List (GBe × Int)) := Option.bind (qS rc xb xp xs xh l0) (fun r1 => Option.bind (getI xb.Strokes xs) (fun x2 => Option.bind (pI rc xb xp x2.Needs xh r1.2) (fun r3 => Option.bind (lW r3.1) (fun r4 => Option.bind (lW ([r1.1, r4])) (fun r5 => some (r5, r3.2))))))
theorem Hs (rc : GBk → (List Int) → Int → Int → (List (GBe × Int)) → Option ((Int) × List (GBe × Int))) (rc_ok : ∀ (xb : GBk) (xp : List Int) (xs : Int) (xh : Int) (l0 : List (GBe × Int)) (R : (Int) × List (GBe × Int)), rc xb xp xs xh l0 = some R → VUpd Tryz.prog G0 118 (fun β => [.agg [.lit (.int .i64 xb.Apprentices), .sl (aa eI xb.Boards) (List.length xb.Boards) false, .sl (aa cGBs xb.Strokes) (List.length xb.Strokes) false, .sl (aa eI xp) (List.length xp) false, .mp β], .lit (.int .i64 xs), .lit (.int .i64 xh)]) (encM aP cW l0) (encM aP cW R.2) (fun _ => .lit (.int .i64 R.1))) (xb : GBk) (xp : List Int) (xs : Int) (xh : Int) (l0 : List (GBe × Int)) (R : (Int) × List (GBe × Int)) (h : qR rc xb xp xs xh l0 = some R) : VUpd Tryz.prog G0 107 (fun β => [.agg [.lit (.int .i64 xb.Apprentices), .sl (aa eI xb.Boards) (List.length xb.Boards) false, .sl (aa cGBs xb.Strokes) (List.length xb.Strokes) false, .sl (aa eI xp) (List.length xp) false, .mp β], .lit (.int .i64 xs), .lit (.int .i64 xh)]) (encM aP cW l0) (encM aP cW R.2) (fun _ => .lit (.int .i64 R.1)) := by
 intro bh nx hlt
 have aR := hY (β := bh) (nx := nx) hlt
 refine ar.run mixed Tryz.call107 Tryz.func107 rfl (by simp [Tryz.ntmps107]; kernel_rfl) ?_
 obtain ⟨KF, h, kF, kN⟩ := cA h
 simp only [qR] at h
 simp only [vz, mq, mqm, vsi, tyf, mqt, aR, nm, seval]
 refine lX (fun tm => tm 1 = .lit (.int .i64 xs) ∧ tm 2 = .lit (.int .i64 xh) ∧ tm 3 = .ptr nx 0 ∧ True) (by refine ⟨?_, ?_, ?_, trivial⟩ <;> first | (simp only [ua, bO, aR, nm, seval] <;> rfl) | rfl) ?_
 rintro tm ⟨e6, e7, e8, _⟩
 obtain ⟨r9, gu, h⟩ := optI h kN
 try simp only [hs] at h
 simp only [vz, mq, mqm, vsi, tyf, mqt, aR, e6, e7, e8, nm, seval]
 refine dkupd (VUpd.at (β := bh) (y := (fun _ => .lit (.int .i64 r9.1))) (KL rc rc_ok _ _ _ _ _ _ gu) (by omega) (by first | rfl | assumption | (simp only [aV, aX, aR, nm, seval] <;> rfl)) (by first | rfl | (simp only [nrm, aL, @dk, @fX] <;> rfl)) (gF (fun _ => rfl) _)) ?_
 refine gW (fun tm => tm 1 = .lit (.int .i64 xs) ∧ tm 2 = .lit (.int .i64 xh) ∧ tm 3 = .ptr nx 0 ∧ tm 10 = .lit (.int .i64 r9.1) ∧ True) (by refine ⟨e6, e7, e8, ?_, trivial⟩ <;> first | (simp only [ua, bO, aR, e6, e7, e8, nm, seval] <;> rfl) | rfl) ?_
 rintro tm ⟨aT, bj, ba, bx, _⟩
 obtain ⟨wI, fM, h⟩ := optI h kN
 try simp only [hs] at h
 obtain ⟨dh, nn, h⟩ := optI h kN
 try simp only [hs] at h
 simp only [vz, mq, mqm, vsi, tyf, mqt, aR, aT, bj, ba, bx, (aH fM), nm, seval]
 refine dkupd (VUpd.at (β := bh) (y := (fun _ => .sl (aa eI dh.1) (List.length dh.1) false)) (Hr rc rc_ok _ _ _ _ _ _ nn) (by omega) (by first | rfl | assumption | (simp only [aV, aX, aR, nm, seval] <;> rfl)) (by first | rfl | (simp only [nrm, aL, @dk, @fX] <;> rfl)) (gF (fun _ => rfl) _)) ?_
 refine gW (fun tm => tm 10 = .lit (.int .i64 r9.1) ∧ tm 20 = .sl (aa eI dh.1) (List.length dh.1) false ∧ True) (by refine ⟨bx, ?_, trivial⟩ <;> first | (simp only [ua, bO, aR, aT, bj, ba, bx, nm, seval] <;> rfl) | rfl) ?_
 rintro tm ⟨bQ, dr, _⟩
 obtain ⟨qT, j6, h⟩ := optI h kN
 try simp only [hs] at h
 simp only [vz, mq, mqm, vsi, tyf, mqt, aR, (aH fM), bQ, dr, nm, seval]
 refine dktree (args0 := [.sl (aa eI dh.1) (List.length dh.1) false]) (by first | (simp only [nrm, aL, @dk] <;> rfl) | rfl) (by simp only [tre, tytre, mqr, Bool.and_self]) (uP _ _ j6) ?_
 refine bJ (fun tm => tm 10 = .lit (.int .i64 r9.1) ∧ tm 21 = .lit (.int .i64 qT) ∧ True) (by refine ⟨bQ, ?_, trivial⟩ <;> first | (simp only [ua, bO, aR, bQ, dr, nm, seval] <;> rfl) | rfl) ?_
 rintro tm ⟨cN, bK, _⟩
 obtain ⟨gD, iE, h⟩ := optI h kN
 try simp only [hs] at h
 simp only [vz, mq, mqm, vsi, tyf, mqt, aR, (aH fM), cN, bK, nm, seval]
 refine dkseen1 (w := 1) (enc := eI) (xs := ([r9.1, qT])) (el := (some 3)) ⟨eI_ok.tree, eI_ok.norm⟩ (fun _ => rfl) (by simp only [List.length_cons, List.length_nil]; decide) (by simp only [aV, aX, bP, aR, nm, seval] <;> rfl) (uP _ _ iE) (by first | rfl | simp only [VV.flat, flatL, Bool.and_self]) ?_
 refine bJ (fun tm => tm 23 = .lit (.int .i64 gD) ∧ True) (by refine ⟨?_, trivial⟩ <;> first | (simp only [ua, bO, aR, cN, bK, nm, seval] <;> rfl) | rfl) ?_
 rintro tm ⟨bk, _⟩
 simp only [vz, mq, mqm, vsi, tyf, mqt, aR, (aH fM), bk, nm, seval]
 refine lY ⟨?_, ?_⟩
 ·simp only [lZ, ma, gX, mb, and_true, true_and]
  repeat' (first | exact trivial | refine And.intro ?_ ?_ | rw [gX] | rw [mc] | exact Or.inl (by decide +kernel) | exact Or.inl (by dsimp only; decide +kernel) | (refine Or.inr ⟨?_, ?_⟩ <;> simp; done) | (refine Or.inr ⟨?_, ?_⟩ <;> simp <;> omega) | (refine Or.inr ⟨?_, ?_⟩ <;> simp [VEff.wr] <;> omega))
 try simp only [vz, mq, mqm, vsi, tyf, mqt, aR, (aH fM), bk, nm, seval]
 refine cL (x := (.lit (.int .i64 gD))) (by first | (simp only [Tryz.results107, resV, resL, resV1, cD, cE, uw, cr, tyf, mqt, aR, (aH fM), nm, seval] <;> rfl) | rfl) ?_
 obtain rfl := kF _ h
 refine ⟨(by first | rfl | assumption | (simp only [aV, aX, aR, nm, seval] <;> rfl)), ?_⟩
 exact sq_of (j7 (by simp only [tre, tytre, mqr, Bool.and_self]) rfl)
def qU (xb : GBk) (xp : List Int) (xs : Int) : Option (Int) := Option.bind (getI xb.Strokes xs) (fun x1 => some x1.Hours.Low)
theorem KM (xb : GBk) (xp : List Int) (xs : Int) (b : Nat) (R : Int) (h : qU xb xp xs = some R) : ah Tryz.prog G0 139 [.agg [.lit (.int .i64 xb.Apprentices), .sl (aa eI xb.Boards) (List.length xb.Boards) false, .sl (aa cGBs xb.Strokes) (List.length xb.Strokes) false, .sl (aa eI xp) (List.length xp) false, .lit (.map (some b))], .lit (.int .i64 xs)] (.tree (.lit (.int .i64 R))) := by
 refine ah.runR mixed Tryz.call139 Tryz.func139 rfl (by simp [Tryz.ntmps139]; kernel_rfl) ?_
 obtain ⟨KF, h, kF, kN⟩ := cA h
 simp only [qU] at h
 obtain ⟨x2, o3, h⟩ := optI h kN
 try simp only [hs] at h
 try simp only [vz, vsi, tyf, (aH o3), nm, seval]
 refine cL (x := (.lit (.int .i64 x2.Hours.Low))) (by first | (simp only [Tryz.results139, resV, resL, resV1, cD, cE, uw, cr, tyf, (aH o3), nm, seval] <;> rfl) | rfl) ?_
 obtain rfl := kF _ h
 refine fN ?_ ?_
 ·simp only [tre, tytre, Bool.and_self]
 ·first | (simp only [outV, uw, fY, cr, tyf, nrm, aL, (aH o3), nm, seval] <;> rfl) | rfl
def qV (xb : GBk) (xp : List Int) (xs : Int) : Option (Int) := Option.bind (getI xb.Strokes xs) (fun x1 => some x1.Hours.High)
theorem KN (xb : GBk) (xp : List Int) (xs : Int) (b : Nat) (R : Int) (h : qV xb xp xs = some R) : ah Tryz.prog G0 140 [.agg [.lit (.int .i64 xb.Apprentices), .sl (aa eI xb.Boards) (List.length xb.Boards) false, .sl (aa cGBs xb.Strokes) (List.length xb.Strokes) false, .sl (aa eI xp) (List.length xp) false, .lit (.map (some b))], .lit (.int .i64 xs)] (.tree (.lit (.int .i64 R))) := by
 refine ah.runR mixed Tryz.call140 Tryz.func140 rfl (by simp [Tryz.ntmps140]; kernel_rfl) ?_
 obtain ⟨KF, h, kF, kN⟩ := cA h
 simp only [qV] at h
 obtain ⟨x2, o3, h⟩ := optI h kN
 try simp only [hs] at h
 try simp only [vz, vsi, tyf, (aH o3), nm, seval]
 refine cL (x := (.lit (.int .i64 x2.Hours.High))) (by first | (simp only [Tryz.results140, resV, resL, resV1, cD, cE, uw, cr, tyf, (aH o3), nm, seval] <;> rfl) | rfl) ?_
 obtain rfl := kF _ h
 refine fN ?_ ?_
 ·simp only [tre, tytre, Bool.and_self]
 ·first | (simp only [outV, uw, fY, cr, tyf, nrm, aL, (aH o3), nm, seval] <;> rfl) | rfl
def qW (rc : GBk → (List Int) → Int → Int → (List (GBe × Int)) → Option ((Int) × List (GBe × Int))) (xb : GBk) (xp : List Int) (xs : Int) (xh : Int) (l0 : List (GBe × Int)) : Option ((Int) × List (GBe × Int)) := cond (mapHas cR l0 (GBe.mk xs xh)) (some (mapGet cR 0 l0 (GBe.mk xs xh), l0)) (Option.bind (qR rc xb xp xs xh l0) (fun r1 => cond (xh == 0) (Option.bind (qU xb xp xs) (fun r2 => some (i64.wrap (r1.1 + r2), mapSet cR r1.2 (GBe.mk xs xh) (i64.wrap (r1.1 + r2))))) (cond (xh == 1) (Option.bind (qV xb xp xs) (fun r2 => some (i64.wrap (r1.1 + r2), mapSet cR r1.2 (GBe.mk xs xh) (i64.wrap (r1.1 + r2))))) none)))
theorem KO (rc : GBk → (List Int) → Int → Int → (List (GBe × Int)) → Option ((Int) × List (GBe × Int))) (rc_ok : ∀ (xb : GBk) (xp : List Int) (xs : Int) (xh : Int) (l0 : List (GBe × Int)) (R : (Int) × List (GBe × Int)), rc xb xp xs xh l0 = some R → VUpd Tryz.prog G0 118 (fun β => [.agg [.lit (.int .i64 xb.Apprentices), .sl (aa eI xb.Boards) (List.length xb.Boards) false, .sl (aa cGBs xb.Strokes) (List.length xb.Strokes) false, .sl (aa eI xp) (List.length xp) false, .mp β], .lit (.int .i64 xs), .lit (.int .i64 xh)]) (encM aP cW l0) (encM aP cW R.2) (fun _ => .lit (.int .i64 R.1))) (xb : GBk) (xp : List Int) (xs : Int) (xh : Int) (l0 : List (GBe × Int)) (R : (Int) × List (GBe × Int)) (h : qW rc xb xp xs xh l0 = some R) : VUpd Tryz.prog G0 118 (fun β => [.agg [.lit (.int .i64 xb.Apprentices), .sl (aa eI xb.Boards) (List.length xb.Boards) false, .sl (aa cGBs xb.Strokes) (List.length xb.Strokes) false, .sl (aa eI xp) (List.length xp) false, .mp β], .lit (.int .i64 xs), .lit (.int .i64 xh)]) (encM aP cW l0) (encM aP cW R.2) (fun _ => .lit (.int .i64 R.1)) := by
 intro bh nx hlt
 have aR := hY (β := bh) (nx := nx) hlt
 refine ar.run mixed Tryz.call118 Tryz.func118 rfl (by simp [Tryz.ntmps118]; kernel_rfl) ?_
 obtain ⟨KF, h, kF, kN⟩ := cA h
 simp only [qW] at h
 have w2 := fun H => qX (β := bh) l0 (GBe.mk xs xh) H
 try simp only [bO] at w2
 cases d3 : (mapHas cR l0 (GBe.mk xs xh))
 ·simp only [d3, hs] at h
  obtain ⟨r4, o5, h⟩ := optI h kN
  try simp only [hs] at h
  have hk : (xh == 0) = true ∨ ((xh == 0) = false ∧ (xh == 1) = true) := by
   cases c0 : (xh == 0)
   ·cases c1 : (xh == 1)
    ·simp only [c0, c1, hs] at h
     exact absurd h kN
    exact .inr ⟨rfl, rfl⟩
   exact .inl rfl
  rcases hk with c0 | ⟨c0, c1⟩
  ·obtain rfl : xh = 0 := by simpa using c0
   simp only [c0, hs] at h
   simp only [vz, mq, mqm, vsi, tyf, mqt, aR, w2, d3, nm, seval]
   refine lX (fun tm => tm 1 = .lit (.int .i64 xs) ∧ tm 2 = .lit (.int .i64 0) ∧ tm 3 = .ptr nx 0 ∧ tm 7 = .ptr (nx + 5) 0 ∧ tm 10 = .ptr (nx + 19) 0 ∧ True) (by refine ⟨?_, ?_, ?_, ?_, ?_, trivial⟩ <;> first | (simp only [ua, bO, aR, w2, d3, nm, seval] <;> rfl) | rfl) ?_
   rintro tm ⟨e1, e2, e3, e4, aQ, _⟩
   simp only [vz, mq, mqm, vsi, tyf, mqt, aR, w2, d3, e1, e2, e3, e4, aQ, nm, seval]
   refine dkupd (VUpd.at (β := bh) (y := (fun _ => .lit (.int .i64 r4.1))) (Hs rc rc_ok _ _ _ _ _ _ o5) (by omega) (by first | rfl | assumption | (simp only [aV, aX, aR, nm, seval] <;> rfl)) (by first | rfl | (simp only [nrm, aL, @dk, @fX] <;> rfl)) (gF (fun _ => rfl) _)) ?_
   refine gW (fun tm => tm 1 = .lit (.int .i64 xs) ∧ tm 2 = .lit (.int .i64 0) ∧ tm 3 = .ptr nx 0 ∧ tm 7 = .ptr (nx + 5) 0 ∧ tm 10 = .ptr (nx + 19) 0 ∧ tm 27 = .lit (.int .i64 r4.1) ∧ True) (by refine ⟨e1, e2, e3, e4, aQ, ?_, trivial⟩ <;> first | (simp only [ua, bO, aR, e1, e2, e3, e4, aQ, nm, seval] <;> rfl) | rfl) ?_
   rintro tm ⟨e1, e2, e3, e4, aQ, bk, _⟩
   obtain ⟨r8, o9, h⟩ := optI h kN
   try simp only [hs] at h
   simp only [vz, mq, mqm, vsi, tyf, mqt, aR, w2, d3, e1, e2, e3, e4, aQ, bk, nm, seval]
   refine dkupd (VUpd.at (β := bh) (y := (fun _ => .lit (.int .i64 r8))) (VUpd.of_lit (A := fun β => [.agg [.lit (.int .i64 xb.Apprentices), .sl (aa eI xb.Boards) (List.length xb.Boards) false, .sl (aa cGBs xb.Strokes) (List.length xb.Strokes) false, .sl (aa eI xp) (List.length xp) false, .mp β], .lit (.int .i64 xs)]) (x := fun _ => .lit (.int .i64 r8)) (es := encM aP cW r4.2) (A0 := fun _ b => [.agg [.lit (.int .i64 xb.Apprentices), .sl (aa eI xb.Boards) (List.length xb.Boards) false, .sl (aa cGBs xb.Strokes) (List.length xb.Strokes) false, .sl (aa eI xp) (List.length xp) false, .lit (.map (some b))], .lit (.int .i64 xs)]) (fun β b => by simp only [List.map_cons, List.map_nil, vlt, if_true, nrm, aL, @dk, tyf, mqt] <;> rfl) (fun β b => by simp only [List.map_cons, List.map_nil, vlt, if_true, tre, tytre, tyf, mqt, Bool.and_self]) (fun β b => rfl) (fun β b => KM xb xp xs b r8 o9) (fun _ _ _ _ _ => j7 (by simp only [tre, tytre, mqr, Bool.and_self]) rfl)) (by omega) (by first | rfl | assumption | (simp only [aV, aX, aR, nm, seval] <;> rfl)) (by first | rfl | (simp only [nrm, aL, @dk, @fX] <;> rfl)) (gF (fun _ => rfl) _)) ?_
   refine gW (fun tm => tm 1 = .lit (.int .i64 xs) ∧ tm 2 = .lit (.int .i64 0) ∧ tm 3 = .ptr nx 0 ∧ tm 7 = .ptr (nx + 5) 0 ∧ tm 27 = .lit (.int .i64 r4.1) ∧ tm 33 = .lit (.int .i64 r8) ∧ True) (by refine ⟨e1, e2, e3, e4, bk, ?_, trivial⟩ <;> first | (simp only [ua, bO, aR, e1, e2, e3, e4, aQ, bk, nm, seval] <;> rfl) | rfl) ?_
   rintro tm ⟨e1, e2, e3, e4, bk, fw, _⟩
   simp only [vz, mq, mqm, vsi, tyf, mqt, aR, w2, d3, e1, e2, e3, e4, bk, fw, nm, seval]
   refine lY ⟨?_, ?_⟩
   ·simp only [lZ, ma, gX, mb, and_true, true_and]
    repeat' (first | exact trivial | refine And.intro ?_ ?_ | rw [gX] | rw [mc] | exact Or.inl (by decide +kernel) | exact Or.inl (by dsimp only; decide +kernel) | (refine Or.inr ⟨?_, ?_⟩ <;> simp; done) | (refine Or.inr ⟨?_, ?_⟩ <;> simp <;> omega) | (refine Or.inr ⟨?_, ?_⟩ <;> simp [VEff.wr] <;> omega) | (refine Or.inr ⟨?_, ?_⟩ <;> simp [rdV, rdO, topName, Op.operands, np, nq, nr, md, VEff.wr] <;> omega))
   have w9 := fun H => qY (β := bh) r4.2 (GBe.mk xs 0) (i64.wrap (r4.1 + r8)) H
   try simp only [bO] at w9
   try simp only [vz, mq, mqm, vsi, tyf, mqt, aR, d3, e1, e2, e3, e4, bk, fw, w9, nm, seval]
   refine cL (x := (.lit (.int .i64 (i64.wrap (r4.1 + r8))))) (by first | (simp only [Tryz.results118, resV, resL, resV1, cD, cE, uw, cr, tyf, mqt, aR, d3, w9, nm, seval] <;> rfl) | rfl) ?_
   obtain rfl := kF _ h
   refine ⟨(by first | rfl | assumption | (simp only [aV, aX, aR, nm, seval] <;> rfl)), ?_⟩
   exact sq_of (j7 (by simp only [tre, tytre, mqr, Bool.and_self]) rfl)
  obtain rfl : xh = 1 := by simpa using c1
  simp only [c0, c1, hs] at h
  simp only [vz, mq, mqm, vsi, tyf, mqt, aR, w2, d3, nm, seval]
  refine lX (fun tm => tm 1 = .lit (.int .i64 xs) ∧ tm 2 = .lit (.int .i64 1) ∧ tm 3 = .ptr nx 0 ∧ tm 7 = .ptr (nx + 5) 0 ∧ tm 10 = .ptr (nx + 19) 0 ∧ True) (by refine ⟨?_, ?_, ?_, ?_, ?_, trivial⟩ <;> first | (simp only [ua, bO, aR, w2, d3, nm, seval] <;> rfl) | rfl) ?_
  rintro tm ⟨e1, e2, e3, e4, aQ, _⟩
  simp only [vz, mq, mqm, vsi, tyf, mqt, aR, w2, d3, e1, e2, e3, e4, aQ, nm, seval]
  refine dkupd (VUpd.at (β := bh) (y := (fun _ => .lit (.int .i64 r4.1))) (Hs rc rc_ok _ _ _ _ _ _ o5) (by omega) (by first | rfl | assumption | (simp only [aV, aX, aR, nm, seval] <;> rfl)) (by first | rfl | (simp only [nrm, aL, @dk, @fX] <;> rfl)) (gF (fun _ => rfl) _)) ?_
  refine gW (fun tm => tm 1 = .lit (.int .i64 xs) ∧ tm 2 = .lit (.int .i64 1) ∧ tm 3 = .ptr nx 0 ∧ tm 7 = .ptr (nx + 5) 0 ∧ tm 10 = .ptr (nx + 19) 0 ∧ tm 27 = .lit (.int .i64 r4.1) ∧ True) (by refine ⟨e1, e2, e3, e4, aQ, ?_, trivial⟩ <;> first | (simp only [ua, bO, aR, e1, e2, e3, e4, aQ, nm, seval] <;> rfl) | rfl) ?_
  rintro tm ⟨e1, e2, e3, e4, aQ, bk, _⟩
  obtain ⟨r8, o9, h⟩ := optI h kN
  try simp only [hs] at h
  simp only [vz, mq, mqm, vsi, tyf, mqt, aR, w2, d3, e1, e2, e3, e4, aQ, bk, nm, seval]
  refine dkupd (VUpd.at (β := bh) (y := (fun _ => .lit (.int .i64 r8))) (VUpd.of_lit (A := fun β => [.agg [.lit (.int .i64 xb.Apprentices), .sl (aa eI xb.Boards) (List.length xb.Boards) false, .sl (aa cGBs xb.Strokes) (List.length xb.Strokes) false, .sl (aa eI xp) (List.length xp) false, .mp β], .lit (.int .i64 xs)]) (x := fun _ => .lit (.int .i64 r8)) (es := encM aP cW r4.2) (A0 := fun _ b => [.agg [.lit (.int .i64 xb.Apprentices), .sl (aa eI xb.Boards) (List.length xb.Boards) false, .sl (aa cGBs xb.Strokes) (List.length xb.Strokes) false, .sl (aa eI xp) (List.length xp) false, .lit (.map (some b))], .lit (.int .i64 xs)]) (fun β b => by simp only [List.map_cons, List.map_nil, vlt, if_true, nrm, aL, @dk, tyf, mqt] <;> rfl) (fun β b => by simp only [List.map_cons, List.map_nil, vlt, if_true, tre, tytre, tyf, mqt, Bool.and_self]) (fun β b => rfl) (fun β b => KN xb xp xs b r8 o9) (fun _ _ _ _ _ => j7 (by simp only [tre, tytre, mqr, Bool.and_self]) rfl)) (by omega) (by first | rfl | assumption | (simp only [aV, aX, aR, nm, seval] <;> rfl)) (by first | rfl | (simp only [nrm, aL, @dk, @fX] <;> rfl)) (gF (fun _ => rfl) _)) ?_
  refine gW (fun tm => tm 1 = .lit (.int .i64 xs) ∧ tm 2 = .lit (.int .i64 1) ∧ tm 3 = .ptr nx 0 ∧ tm 7 = .ptr (nx + 5) 0 ∧ tm 27 = .lit (.int .i64 r4.1) ∧ tm 33 = .lit (.int .i64 r8) ∧ True) (by refine ⟨e1, e2, e3, e4, bk, ?_, trivial⟩ <;> first | (simp only [ua, bO, aR, e1, e2, e3, e4, aQ, bk, nm, seval] <;> rfl) | rfl) ?_
  rintro tm ⟨e1, e2, e3, e4, bk, fw, _⟩
  simp only [vz, mq, mqm, vsi, tyf, mqt, aR, w2, d3, e1, e2, e3, e4, bk, fw, nm, seval]
  refine lY ⟨?_, ?_⟩
  ·simp only [lZ, ma, gX, mb, and_true, true_and]
   repeat' (first | exact trivial | refine And.intro ?_ ?_ | rw [gX] | rw [mc] | exact Or.inl (by decide +kernel) | exact Or.inl (by dsimp only; decide +kernel) | (refine Or.inr ⟨?_, ?_⟩ <;> simp; done) | (refine Or.inr ⟨?_, ?_⟩ <;> simp <;> omega) | (refine Or.inr ⟨?_, ?_⟩ <;> simp [VEff.wr] <;> omega) | (refine Or.inr ⟨?_, ?_⟩ <;> simp [rdV, rdO, topName, Op.operands, np, nq, nr, md, VEff.wr] <;> omega))
  have w9 := fun H => qY (β := bh) r4.2 (GBe.mk xs 1) (i64.wrap (r4.1 + r8)) H
  try simp only [bO] at w9
  try simp only [vz, mq, mqm, vsi, tyf, mqt, aR, d3, e1, e2, e3, e4, bk, fw, w9, nm, seval]
  refine cL (x := (.lit (.int .i64 (i64.wrap (r4.1 + r8))))) (by first | (simp only [Tryz.results118, resV, resL, resV1, cD, cE, uw, cr, tyf, mqt, aR, d3, w9, nm, seval] <;> rfl) | rfl) ?_
  obtain rfl := kF _ h
  refine ⟨(by first | rfl | assumption | (simp only [aV, aX, aR, nm, seval] <;> rfl)), ?_⟩
  exact sq_of (j7 (by simp only [tre, tytre, mqr, Bool.and_self]) rfl)
 simp only [d3, hs] at h
 try simp only [vz, mq, mqm, vsi, tyf, mqt, aR, w2, d3, nm, seval]
 refine cL (x := (.lit (.int .i64 (mapGet cR 0 l0 (GBe.mk xs xh))))) (by first | (simp only [Tryz.results118, resV, resL, resV1, cD, cE, uw, cr, tyf, mqt, aR, w2, d3, nm, seval] <;> rfl) | rfl) ?_
 obtain rfl := kF _ h
 refine ⟨(by first | rfl | assumption | (simp only [aV, aX, aR, nm, seval] <;> rfl)), ?_⟩
 exact sq_of (j7 (by simp only [tre, tytre, mqr, Bool.and_self]) rfl)
def gEnd : Nat → GBk → (List Int) → Int → Int → (List (GBe × Int)) → Option ((Int) × List (GBe × Int))
 | 0 => fun _ _ _ _ _ => none
 | n + 1 => qW (gEnd n)
theorem qZ : ∀ (n : Nat) (xb : GBk) (xp : List Int) (xs : Int) (xh : Int) (l0 : List (GBe × Int)) (R : (Int) × List (GBe × Int)), gEnd n xb xp xs xh l0 = some R → VUpd Tryz.prog G0 118 (fun β => [.agg [.lit (.int .i64 xb.Apprentices), .sl (aa eI xb.Boards) (List.length xb.Boards) false, .sl (aa cGBs xb.Strokes) (List.length xb.Strokes) false, .sl (aa eI xp) (List.length xp) false, .mp β], .lit (.int .i64 xs), .lit (.int .i64 xh)]) (encM aP cW l0) (encM aP cW R.2) (fun _ => .lit (.int .i64 R.1))
 | 0, _, _, _, _, _, _, h => by cases h
 | n + 1, xb, xp, xs, xh, l0, R, h => KO (gEnd n) (qZ n) xb xp xs xh l0 R h
def uQ (xb : GBk) (xp : List Int) (xss : List Int) (xh : Int) (l0 : List (GBe × Int)) : Option ((List Int) × List (GBe × Int)) := pI (gEnd 8) xb xp xss xh l0
theorem Ht (xb : GBk) (xp : List Int) (xss : List Int) (xh : Int) (l0 : List (GBe × Int)) (R : (List Int) × List (GBe × Int)) (h : uQ xb xp xss xh l0 = some R) : VUpd Tryz.prog G0 106 (fun β => [.agg [.lit (.int .i64 xb.Apprentices), .sl (aa eI xb.Boards) (List.length xb.Boards) false, .sl (aa cGBs xb.Strokes) (List.length xb.Strokes) false, .sl (aa eI xp) (List.length xp) false, .mp β], .sl (aa eI xss) (List.length xss) false, .lit (.int .i64 xh)]) (encM aP cW l0) (encM aP cW R.2) (fun _ => .sl (aa eI R.1) (List.length R.1) false) := Hr (gEnd 8) (qZ 8) xb xp xss xh l0 R h
end Go.V
end
section
namespace Go.V
open Go Go.Proofs IntKind
section
variable {K V : Type} {q : K → K → Bool} {z : V}
def setR (q : K → K → Bool) (k : K) (v : V) : List (K × V) → List (K × V)
 | [] => [(k, v)]
 | e :: l => if q k e.1 then (k, v) :: l else e :: setR q k v l
theorem ra (k : K) : ∀ (es : List K) (i : Nat), kIdx q k es (i + 1) = (kIdx q k es i).map (· + 1)
 | [], _ => rfl
 | e :: es, i => by
  unfold kIdx
  cases q k e with
  | true => rfl
  | false => exact ra k es (i + 1)
theorem Hu (k : K) (v : V) : ∀ l : List (K × V), mapSet q l k v = setR q k v l
 | [] => rfl
 | e :: l => by
  have ih := Hu k v l
  unfold mapSet at ih ⊢
  rw [List.map_cons]
  unfold kIdx setR
  cases hq : q k e.1 with
  | true => rfl
  | false =>
   simp only [cond_false, Bool.false_eq_true, if_false]
   rw [ra]
   cases h : kIdx q k (l.map (·.1)) 0 with
   | none => rw [h] at ih; simpa using ih
   | some i => rw [h] at ih; simpa using ih
end
end Go.V
end
section
namespace Go.V
open Go Go.Proofs IntKind
def pL (xb : GBk) (xp : List Int) (xss : List Int) (l0 : List (GBe × Int)) : Option ((GSpan) × List (GBe × Int)) := Option.bind (uQ xb xp xss 0 l0) (fun r1 => Option.bind (lW r1.1) (fun r2 => Option.bind (uQ xb xp xss 1 r1.2) (fun r3 => Option.bind (lW r3.1) (fun r4 => some ((GSpan.mk r2 r4), r3.2)))))
theorem uR (xb : GBk) (xp : List Int) (xss : List Int) (l0 : List (GBe × Int)) (R : (GSpan) × List (GBe × Int)) (h : pL xb xp xss l0 = some R) : VUpd Tryz.prog G0 70 (fun β => [.agg [.lit (.int .i64 xb.Apprentices), .sl (aa eI xb.Boards) (List.length xb.Boards) false, .sl (aa cGBs xb.Strokes) (List.length xb.Strokes) false, .sl (aa eI xp) (List.length xp) false, .mp β], .sl (aa eI xss) (List.length xss) false]) (encM aP cW l0) (encM aP cW R.2) (fun _ => .agg (au R.1)) := by
 intro bh nx hlt
 have aR := hY (β := bh) (nx := nx) hlt
 refine ar.run mixed Tryz.call70 Tryz.func70 rfl (by simp [Tryz.ntmps70]; kernel_rfl) ?_
 obtain ⟨KF, h, kF, kN⟩ := cA h
 simp only [pL] at h
 simp only [vz, mq, mqm, vsi, tyf, mqt, aR, nm, seval]
 refine lX (fun tm => tm 1 = .sl (aa eI xss) (List.length xss) false ∧ tm 2 = .ptr nx 0 ∧ tm 4 = .ptr (nx + 1) 0 ∧ True) (by refine ⟨?_, ?_, ?_, trivial⟩ <;> first | (simp only [ua, bO, aR, nm, seval] <;> rfl) | rfl) ?_
 rintro tm ⟨e5, e6, e7, _⟩
 obtain ⟨r8, o9, h⟩ := optI h kN
 try simp only [hs] at h
 simp only [vz, mq, mqm, vsi, tyf, mqt, aR, e5, e6, e7, nm, seval]
 refine dkupd (VUpd.at (β := bh) (y := (fun _ => .sl (aa eI r8.1) (List.length r8.1) false)) (Ht _ _ _ _ _ _ o9) (by omega) (by first | rfl | assumption | (simp only [aV, aX, aR, nm, seval] <;> rfl)) (by first | rfl | (simp only [nrm, aL, @dk, @fX] <;> rfl)) (gF (fun _ => rfl) _)) ?_
 refine gW (fun tm => tm 1 = .sl (aa eI xss) (List.length xss) false ∧ tm 2 = .ptr nx 0 ∧ tm 4 = .ptr (nx + 1) 0 ∧ tm 7 = .sl (aa eI r8.1) (List.length r8.1) false ∧ True) (by refine ⟨e5, e6, e7, ?_, trivial⟩ <;> first | (simp only [ua, bO, aR, e5, e6, e7, nm, seval] <;> rfl) | rfl) ?_
 rintro tm ⟨aQ, aT, bj, ba, _⟩
 obtain ⟨pM, nt, h⟩ := optI h kN
 try simp only [hs] at h
 simp only [vz, mq, mqm, vsi, tyf, mqt, aR, aQ, aT, bj, ba, nm, seval]
 refine dktree (args0 := [.sl (aa eI r8.1) (List.length r8.1) false]) (by first | (simp only [nrm, aL, @dk] <;> rfl) | rfl) (by simp only [tre, tytre, mqr, Bool.and_self]) (uP _ _ nt) ?_
 refine bJ (fun tm => tm 1 = .sl (aa eI xss) (List.length xss) false ∧ tm 2 = .ptr nx 0 ∧ tm 4 = .ptr (nx + 1) 0 ∧ tm 8 = .lit (.int .i64 pM) ∧ True) (by refine ⟨aQ, aT, bj, ?_, trivial⟩ <;> first | (simp only [ua, bO, aR, aQ, aT, bj, ba, nm, seval] <;> rfl) | rfl) ?_
 rintro tm ⟨bE, b5, bF, bQ, _⟩
 obtain ⟨j8, me, h⟩ := optI h kN
 try simp only [hs] at h
 simp only [vz, mq, mqm, vsi, tyf, mqt, aR, bE, b5, bF, bQ, nm, seval]
 refine dkupd (VUpd.at (β := bh) (y := (fun _ => .sl (aa eI j8.1) (List.length j8.1) false)) (Ht _ _ _ _ _ _ me) (by omega) (by first | rfl | assumption | (simp only [aV, aX, aR, nm, seval] <;> rfl)) (by first | rfl | (simp only [nrm, aL, @dk, @fX] <;> rfl)) (gF (fun _ => rfl) _)) ?_
 refine gW (fun tm => tm 4 = .ptr (nx + 1) 0 ∧ tm 8 = .lit (.int .i64 pM) ∧ tm 11 = .sl (aa eI j8.1) (List.length j8.1) false ∧ True) (by refine ⟨bF, bQ, ?_, trivial⟩ <;> first | (simp only [ua, bO, aR, bE, b5, bF, bQ, nm, seval] <;> rfl) | rfl) ?_
 rintro tm ⟨da, cN, bK, _⟩
 obtain ⟨gD, iE, h⟩ := optI h kN
 try simp only [hs] at h
 simp only [vz, mq, mqm, vsi, tyf, mqt, aR, da, cN, bK, nm, seval]
 refine dktree (args0 := [.sl (aa eI j8.1) (List.length j8.1) false]) (by first | (simp only [nrm, aL, @dk] <;> rfl) | rfl) (by simp only [tre, tytre, mqr, Bool.and_self]) (uP _ _ iE) ?_
 refine bJ (fun tm => tm 4 = .ptr (nx + 1) 0 ∧ tm 8 = .lit (.int .i64 pM) ∧ tm 12 = .lit (.int .i64 gD) ∧ True) (by refine ⟨da, cN, ?_, trivial⟩ <;> first | (simp only [ua, bO, aR, da, cN, bK, nm, seval] <;> rfl) | rfl) ?_
 rintro tm ⟨bk, cM, ca, _⟩
 simp only [vz, mq, mqm, vsi, tyf, mqt, aR, bk, cM, ca, nm, seval]
 refine lY ⟨?_, ?_⟩
 ·simp only [lZ, ma, gX, mb, and_true, true_and]
  repeat' (first | exact trivial | refine And.intro ?_ ?_ | rw [gX] | rw [mc] | exact Or.inl (by decide +kernel) | exact Or.inl (by dsimp only; decide +kernel) | (refine Or.inr ⟨?_, ?_⟩ <;> simp; done) | (refine Or.inr ⟨?_, ?_⟩ <;> simp <;> omega) | (refine Or.inr ⟨?_, ?_⟩ <;> simp [VEff.wr] <;> omega))
 try simp only [vz, mq, mqm, vsi, tyf, mqt, aR, bk, cM, ca, nm, seval]
 refine cL (x := (.agg ([.lit (.int .i64 pM)] ++ [.lit (.int .i64 gD)]))) (by first | (simp only [Tryz.results70, resV, resL, resV1, cD, cE, uw, cr, tyf, mqt, aR, bk, cM, ca, nm, seval] <;> rfl) | rfl) ?_
 obtain rfl := kF _ h
 refine ⟨(by first | rfl | assumption | (simp only [aV, aX, aR, nm, seval] <;> rfl)), ?_⟩
 exact sq_of (j7 (by first | (simp only [tre, tytre, mqr, Bool.and_self]; done) | rfl) rfl)
theorem But.self (W : World) (b : Nat) : But W W b := ⟨fun _ _ _ => rfl, Nat.le_refl _, rfl, rfl, rfl⟩
theorem kupdF {P : Program} {G : Glob} {H : Nat → Option VObj} {f : FuncId} {args args' cs : List VV} {el : Option TypeId} {y : VV} {d : Option Tmp} {γ β g : Nat} {tm : Nat → VV} {nx : Nat} {df : List VDef} {K : St → Prop} {Qp : VV → St → Prop} {es' : List (Value × VV)} (hγ : H g = some (.cells el cs)) (ha : FrozenL H (without H g) args args')
  (hu : UpdC P G f args' (without H g) nx β es' y) (h : fin d γ tm (without H g) nx df K y (.upd β (.map es'))) : callK P G f args ⟨tm, H, nx, df⟩ d γ K Qp := by
 refine .inr (.inr ?_)
 unfold openK
 refine ar.mono (ar.freeze1 hγ ha hu.open) ?_ (fun _ _ _ h => h.elim)
 rintro v H2 KP ⟨rfl, rfl, rfl⟩
 rw [← dx (K := K)] at h
 cases d <;> exact h
def ko (aU : Int) : List GBs → Int → (List Int) → Option (LOut ((GSpan) × List (GBe × Int)) ((List Int)))
 | [], c9, bM => some (.go bM)
 | e0 :: p0, c9, bM => cond (e0.Board == aU) (cond (roomOk 8 (List.length (bM ++ [c9]))) (ko aU p0 (c9 + 1) (bM ++ [c9])) none) (ko aU p0 (c9 + 1) bM)
def rb (xb : GBk) (xp : List Int) (aU : Int) (l0 : List (GBe × Int)) : Option ((GSpan) × List (GBe × Int)) := cond (aC xb.Strokes) (lbind (ko aU xb.Strokes 0 ([] : List Int)) (fun r3 => some r3) (fun c1 => Option.bind (pL xb xp c1 l0) (fun r2 => some (r2.1, r2.2))) (fun _ _ => none)) none
theorem KQ (xb : GBk) (xp : List Int) (aU : Int) (l0 : List (GBe × Int)) (R : (GSpan) × List (GBe × Int)) (h : rb xb xp aU l0 = some R) : VUpd Tryz.prog G0 72 (fun β => [.agg [.lit (.int .i64 xb.Apprentices), .sl (aa eI xb.Boards) (List.length xb.Boards) false, .sl (aa cGBs xb.Strokes) (List.length xb.Strokes) false, .sl (aa eI xp) (List.length xp) false, .mp β], .lit (.int .i64 aU)]) (encM aP cW l0) (encM aP cW R.2) (fun _ => .agg (au R.1)) := by
 intro bh nx hlt
 have aR := hY (β := bh) (nx := nx) hlt
 refine ar.run mixed Tryz.call72 Tryz.func72 rfl (by simp [Tryz.ntmps72]; kernel_rfl) ?_
 obtain ⟨KF, h, kF, kN⟩ := cA h
 simp only [rb] at h
 cases g5 : (aC xb.Strokes)
 ·simp only [g5, hs] at h
  exact absurd h kN
 simp only [g5, hs] at h
 simp only [vz, mq, mqm, vsi, tyf, mqt, aR, g5, nm, seval]
 obtain ⟨K4, h, Hv, uS, KR, uT⟩ := eN h kN
 obtain ⟨f4, wJ, h⟩ := call3 h
 obtain ⟨I4, kq⟩ : ∃ I : Nat → St → Prop, I = (fun m st => ∃ (p4 : List GBs) (br : Int) (cG : List Int) (lh : VV), m = List.length p4 ∧ 0 ≤ br ∧ List.drop (Int.toNat br) xb.Strokes = p4 ∧ st.df = [] ∧ nx + 8 ≤ st.nx ∧ st.H bh = some (.map (encM aP cW l0)) ∧ st.H nx = some (.cells (some 92) ((cGBk xb) ++ [.sl (aa eI xp) (List.length xp) false] ++ [.mp bh])) ∧ st.H (nx + 1) = some (.cells (some 35) ([.lit (.int .i64 0)] ++ [.lit (.int .i64 0)])) ∧ st.tm 1 = .lit (.int .i64 aU) ∧ st.tm 2 = .ptr nx 0 ∧ st.tm 4 = .ptr (nx + 1) 0 ∧ st.tm 10 = .sl (aa cGBs xb.Strokes) (List.length xb.Strokes) false ∧ st.tm 11 = .lit (.int .i64 (List.length xb.Strokes : Int)) ∧ st.tm 5 = lh ∧ st.tm 12 = .lit (.int .i64 br) ∧ ((∃ (β : Nat) (el : Option TypeId), lh = .ref β 0 (List.length cG) 1 (List.length cG) ∧ β < st.nx ∧ β ≠ bh ∧ β ≠ nx ∧ β ≠ nx + 1 ∧ st.H β = some (.cells el (aa eI cG))) ∨ (lh = .lit (.slice none 0 0) ∧ cG = [])) ∧ K4 (f4 p4 br cG)) := ⟨_, rfl⟩
 refine loopK mixed (by kernel_rfl) I4 (List.length xb.Strokes) (by rw [kq]; refine ⟨xb.Strokes, 0, ([] : List Int), .lit (.slice none 0 0), rfl, Int.le_refl _, rfl, rfl, (show nx + 8 ≤ nx + 8 by omega), ?_, ?_, ?_, ?_, ?_, ?_, ?_, ?_, ?_, ?_, Or.inr ⟨rfl, rfl⟩, h⟩ <;> first | (simp only [ua, bO, aR, nm, seval] <;> rfl) | rfl) ?_
 rintro m ⟨tm, H, iQ, df⟩ hinv
 rw [kq] at hinv
 obtain ⟨p4, br, cG, lh, rfl, eQ, gv, hdf, wK, H6, H7, H8, e9, aQ, aT, bj, ba, bx, bt, mf, h⟩ := hinv
 simp only at hdf wK H6 H7 H8 e9 aQ aT bj ba bx bt mf
 have cw := ng (a := nx) (m := 8) (b := iQ) (by omega)
 have gY := hY (β := bh) (nx := iQ) (by omega)
 subst hdf wJ
 rcases mf with ⟨nu, gG, rfl, nh, ni, wL, wM, ku⟩ | ⟨rfl, rfl⟩
 ·have fK := hY nh
  have fL := ne_f ni
  have ky := ne_f wL
  have kz := ne_f wM
  cases p4 with
  | nil =>
   have dP : (decide (br < (List.length xb.Strokes : Int))) = false := eg eQ gv
   simp only [ko, hs, reduceCtorEq] at h
   replace h := uS _ h
   try dsimp only at h
   try simp only [hs] at h
   obtain ⟨j9, mg, h⟩ := optI h kN
   try simp only [hs] at h
   simp only [vz, mq, mqm, vsi, tyf, mqt, aR, g5, cw, gY, e9, aQ, aT, bj, ba, bx, bt, H6, H7, H8, fK, ku, fL, ky, kz, dP, nm, seval]
   refine kupdF (args' := [.agg ((cGBk xb) ++ [.sl (aa eI xp) (List.length xp) false] ++ [.mp bh]), .sl (aa eI cG) (List.length cG) false]) (g := nu) (el := gG) (cs := aa eI cG) (by first | rfl | assumption | (simp only [aV, aX, bP, aR, cw, gY, H6, H7, H8, fK, ku, fL, ky, kz, nm, seval] <;> rfl) | (simp only [aV, aX, dp, dL, dv, dw, tyf, mqt, aR, g5, cw, gY, e9, aQ, aT, bj, ba, bx, bt, H6, H7, H8, fK, ku, fL, ky, kz, dP, nm, seval]; done)) ⟨.same, Frozen.own (el := gG) (cs := aa eI cG) (by first | rfl | assumption | (simp only [aV, aX, bP, aR, cw, gY, H6, H7, H8, fK, ku, fL, ky, kz, nm, seval] <;> rfl) | (simp only [aV, aX, dp, dL, dv, dw, tyf, mqt, aR, g5, cw, gY, e9, aQ, aT, bj, ba, bx, bt, H6, H7, H8, fK, ku, fL, ky, kz, dP, nm, seval]; done)) (eI_ok.treeL _) (ff (w := 1) (enc := eI) (fun _ => rfl) _), trivial⟩ (VUpd.at (β := bh) (y := (fun _ => .agg (au j9.1))) (uR _ _ _ _ _ mg) (by omega) (by first | rfl | assumption | (simp only [aV, aX, aR, cw, gY, H6, H7, H8, fK, ku, fL, ky, kz, nm, seval] <;> rfl)) (by first | rfl | (simp only [nrm, aL, @dk, @fX] <;> rfl) | (simp only [tyf, mqt, List.cons_append, List.nil_append, nrm, aL, @dk, @fX] <;> rfl)) (gF (fun _ => rfl) _)) ?_
   refine gW (fun tm => tm 4 = .ptr (nx + 1) 0 ∧ tm 28 = .agg (au j9.1) ∧ True) (by refine ⟨aT, ?_, trivial⟩ <;> first | (simp only [ua, bO, aR, cw, gY, e9, aQ, aT, bj, ba, bx, bt, H6, H7, H8, fK, ku, fL, ky, kz, dP, nm, seval] <;> rfl) | rfl) ?_
   rintro tm ⟨cl, bk, _⟩
   have iR := And.intro aR (And.intro g5 (And.intro cw (And.intro gY (And.intro H6 (And.intro H7 (And.intro H8 (And.intro fK (And.intro ku (And.intro fL (And.intro ky (And.intro kz dP)))))))))))
   try simp only [vz, mq, mqm, vsi, tyf, mqt, iR, cl, bk, nm, seval]
   refine cL (x := (.agg (au j9.1))) (by first | (simp only [Tryz.results72, resV, resL, resV1, cD, cE, uw, cr, tyf, mqt, iR, cl, bk, nm, seval] <;> rfl) | rfl) ?_
   obtain rfl := kF _ h
   refine ⟨(by first | rfl | assumption | (simp only [aV, aX, iR, nm, seval] <;> rfl)), ?_⟩
   exact sq_of (j7 (by first | (simp only [tre, tytre, mqr, Bool.and_self]; done) | rfl) rfl)
  | cons e4 p4 =>
   have Hw : (decide (br < (List.length xb.Strokes : Int))) = true := eh eQ gv
   have re := cX eQ gv
   have Hx := dO eQ gv g5
   simp only [ko, hs, reduceCtorEq] at h
   cases js : (e4.Board == aU)
   ·simp only [js, hs] at h
    have pN := And.intro aR (And.intro g5 (And.intro cw (And.intro gY (And.intro H6 (And.intro H7 (And.intro H8 (And.intro fK (And.intro ku (And.intro fL (And.intro ky (And.intro kz (And.intro Hw (And.intro Hx js)))))))))))))
    simp only [vz, mq, mqm, vsi, tyf, mqt, pN, e9, aQ, aT, bj, ba, bx, bt, (aH re), nm, seval]
    exact ⟨List.length p4, Nat.lt_succ_self _, by rw [kq]; refine ⟨p4, br + 1, cG, .ref nu 0 (List.length cG) 1 (List.length cG), rfl, Int.le_trans eQ (Int.le_add_one (Int.le_refl _)), bV eQ gv, rfl, (show nx + 8 ≤ iQ + 13 by omega), ?_, ?_, ?_, e9, aQ, aT, bj, ba, ?_, ?_, Or.inl ⟨nu, gG, rfl, (by first | omega | (simp only [nm, seval]; done) | (simp only [nm, seval]; omega)), (by first | omega | (intro hh; simp only [pN, reduceCtorEq] at hh)), (by first | omega | (intro hh; simp only [pN, reduceCtorEq] at hh)), (by first | omega | (intro hh; simp only [pN, reduceCtorEq] at hh)), ?_⟩, (by first | exact h | (simp only [pN]; exact h))⟩ <;> first | (simp only [ua, bO, pN, e9, aQ, aT, bj, ba, bx, bt, nm, seval] <;> rfl) | rfl⟩
   simp only [js, hs] at h
   have eE := And.intro aR (And.intro g5 (And.intro cw (And.intro gY (And.intro H6 (And.intro H7 (And.intro H8 (And.intro fK (And.intro ku (And.intro fL (And.intro ky (And.intro kz (And.intro Hw (And.intro Hx js)))))))))))))
   cases eO : (roomOk 8 (List.length (cG ++ [br])))
   ·simp only [eO, hs] at h
    exact absurd h uT
   simp only [eO, hs] at h
   simp only [vz, mq, mqm, vsi, tyf, mqt, eE, e9, aQ, aT, bj, ba, bx, bt, (aH re), eO, nm, seval]
   refine k_app (w := 1) (enc := eI) (xs := cG) (ys := ([br])) (el := gG) (gq := (some 3)) (fun _ => rfl) fx eP Tryz.underlying22 (by first | rfl | assumption | (simp only [aV, aX, bP, eE, nm, seval] <;> rfl) | (simp only [aV, aX, dp, dL, dv, dw, tyf, mqt, eE, e9, aQ, aT, bj, ba, bx, bt, (aH re), eO, nm, seval]; done)) (by first | rfl | assumption | (simp only [aV, aX, bP, eE, nm, seval] <;> rfl) | (simp only [aV, aX, dp, dL, dv, dw, tyf, mqt, eE, e9, aQ, aT, bj, ba, bx, bt, (aH re), eO, nm, seval]; done)) (Nat.zero_lt_succ _) eO ?_
   simp only [vz, mq, mqm, vsi, tyf, mqt, eE, e9, aQ, aT, bj, ba, bx, bt, (aH re), eO, nm, seval]
   exact ⟨List.length p4, Nat.lt_succ_self _, by rw [kq]; refine ⟨p4, br + 1, (cG ++ [br]), .ref (iQ + 14) 0 (List.length (cG ++ [br])) 1 (List.length (cG ++ [br])), rfl, Int.le_trans eQ (Int.le_add_one (Int.le_refl _)), bV eQ gv, rfl, (show nx + 8 ≤ iQ + 18 by omega), ?_, ?_, ?_, e9, aQ, aT, bj, ba, ?_, ?_, Or.inl ⟨iQ + 14, (sameEl gG 3), rfl, (by first | omega | (simp only [nm, seval]; done) | (simp only [nm, seval]; omega)), (by first | omega | (intro hh; simp only [eE, reduceCtorEq] at hh)), (by first | omega | (intro hh; simp only [eE, reduceCtorEq] at hh)), (by first | omega | (intro hh; simp only [eE, reduceCtorEq] at hh)), ?_⟩, (by first | exact h | (simp only [eE]; exact h))⟩ <;> first | (simp only [ua, bO, eE, e9, aQ, aT, bj, ba, bx, bt, nm, seval] <;> rfl) | rfl⟩
 ·cases p4 with
  | nil =>
   have pJ : (decide (br < (List.length xb.Strokes : Int))) = false := eg eQ gv
   simp only [ko, hs, reduceCtorEq] at h
   replace h := uS _ h
   try dsimp only at h
   try simp only [hs] at h
   obtain ⟨jt, wN, h⟩ := optI h kN
   try simp only [hs] at h
   simp only [vz, mq, mqm, vsi, tyf, mqt, aR, g5, cw, gY, e9, aQ, aT, bj, ba, bx, bt, H6, H7, H8, pJ, nm, seval]
   refine kupd (VUpd.at (β := bh) (y := (fun _ => .agg (au jt.1))) (uR _ _ _ _ _ wN) (by omega) (by first | rfl | assumption | (simp only [aV, aX, aR, cw, gY, H6, H7, H8, nm, seval] <;> rfl)) (by first | rfl | (simp only [nrm, aL, @dk, @fX] <;> rfl)) (gF (fun _ => rfl) _)) ?_
   refine gW (fun tm => tm 4 = .ptr (nx + 1) 0 ∧ tm 28 = .agg (au jt.1) ∧ True) (by refine ⟨aT, ?_, trivial⟩ <;> first | (simp only [ua, bO, aR, cw, gY, e9, aQ, aT, bj, ba, bx, bt, H6, H7, H8, pJ, nm, seval] <;> rfl) | rfl) ?_
   rintro tm ⟨gZ, iS, _⟩
   have wO := And.intro aR (And.intro g5 (And.intro cw (And.intro gY (And.intro H6 (And.intro H7 (And.intro H8 pJ))))))
   try simp only [vz, mq, mqm, vsi, tyf, mqt, wO, gZ, iS, nm, seval]
   refine cL (x := (.agg (au jt.1))) (by first | (simp only [Tryz.results72, resV, resL, resV1, cD, cE, uw, cr, tyf, mqt, wO, gZ, iS, nm, seval] <;> rfl) | rfl) ?_
   obtain rfl := kF _ h
   refine ⟨(by first | rfl | assumption | (simp only [aV, aX, wO, nm, seval] <;> rfl)), ?_⟩
   exact sq_of (j7 (by first | (simp only [tre, tytre, mqr, Bool.and_self]; done) | rfl) rfl)
  | cons e4 p4 =>
   have h9 : (decide (br < (List.length xb.Strokes : Int))) = true := eh eQ gv
   have ia := cX eQ gv
   have ib := dO eQ gv g5
   simp only [ko, hs, reduceCtorEq] at h
   cases uU : (e4.Board == aU)
   ·simp only [uU, hs] at h
    have wP := And.intro aR (And.intro g5 (And.intro cw (And.intro gY (And.intro H6 (And.intro H7 (And.intro H8 (And.intro h9 (And.intro ib uU))))))))
    simp only [vz, mq, mqm, vsi, tyf, mqt, wP, e9, aQ, aT, bj, ba, bx, bt, (aH ia), nm, seval]
    exact ⟨List.length p4, Nat.lt_succ_self _, by rw [kq]; refine ⟨p4, br + 1, ([] : List Int), .lit (.slice none 0 0), rfl, Int.le_trans eQ (Int.le_add_one (Int.le_refl _)), bV eQ gv, rfl, (show nx + 8 ≤ iQ + 13 by omega), ?_, ?_, ?_, e9, aQ, aT, bj, ba, ?_, ?_, Or.inr ⟨rfl, rfl⟩, (by first | exact h | (simp only [wP]; exact h))⟩ <;> first | (simp only [ua, bO, wP, e9, aQ, aT, bj, ba, bx, bt, nm, seval] <;> rfl) | rfl⟩
   simp only [uU, hs] at h
   have lj := And.intro aR (And.intro g5 (And.intro cw (And.intro gY (And.intro H6 (And.intro H7 (And.intro H8 (And.intro h9 (And.intro ib uU))))))))
   cases pO : (roomOk 8 (List.length (([] : List Int) ++ [br])))
   ·simp only [pO, hs] at h
    exact absurd h uT
   simp only [pO, hs] at h
   simp only [vz, mq, mqm, vsi, tyf, mqt, lj, e9, aQ, aT, bj, ba, bx, bt, (aH ia), pO, nm, seval]
   refine nk (w := 1) (enc := eI) (ys := ([br])) (gq := (some 3)) (fun _ => rfl) fx eP Tryz.underlying22 (by first | rfl | assumption | (simp only [aV, aX, bP, lj, nm, seval] <;> rfl) | (simp only [aV, aX, dp, dL, dv, dw, tyf, mqt, lj, e9, aQ, aT, bj, ba, bx, bt, (aH ia), pO, nm, seval]; done)) (Nat.zero_lt_succ _) pO ?_
   simp only [vz, mq, mqm, vsi, tyf, mqt, lj, e9, aQ, aT, bj, ba, bx, bt, (aH ia), pO, nm, seval]
   exact ⟨List.length p4, Nat.lt_succ_self _, by rw [kq]; refine ⟨p4, br + 1, (([] : List Int) ++ [br]), .ref (iQ + 14) 0 (List.length (([] : List Int) ++ [br])) 1 (List.length (([] : List Int) ++ [br])), rfl, Int.le_trans eQ (Int.le_add_one (Int.le_refl _)), bV eQ gv, rfl, (show nx + 8 ≤ iQ + 18 by omega), ?_, ?_, ?_, e9, aQ, aT, bj, ba, ?_, ?_, Or.inl ⟨iQ + 14, (some 3), rfl, (by first | omega | (simp only [nm, seval]; done) | (simp only [nm, seval]; omega)), (by first | omega | (intro hh; simp only [lj, reduceCtorEq] at hh)), (by first | omega | (intro hh; simp only [lj, reduceCtorEq] at hh)), (by first | omega | (intro hh; simp only [lj, reduceCtorEq] at hh)), ?_⟩, (by first | exact h | (simp only [lj]; exact h))⟩ <;> first | (simp only [ua, bO, lj, e9, aQ, aT, bj, ba, bx, bt, nm, seval] <;> rfl) | rfl⟩


end Go.V
end
