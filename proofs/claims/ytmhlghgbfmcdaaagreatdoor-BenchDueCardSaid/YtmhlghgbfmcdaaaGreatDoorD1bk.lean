/- Part of a proof. -/
import Derived.Test.YtmhlghgbfmcdaaaGreatDoorD1bj
set_option linter.all false
set_option maxRecDepth 4000
set_option maxHeartbeats 40000000
section
namespace Go.V
open Go Go.Proofs IntKind
def jz (aQ : Int) : List GBs → Int → (List Int) → Option (LOut ((GSpan) × List (GBe × Int)) ((List Int)))
 | [], d6, eL => some (.go eL)
 | e0 :: p0, d6, eL => cond (e0.Board == aQ) (cond (roomOk 8 (List.length (eL ++ [d6]))) (jz aQ p0 (d6 + 1) (eL ++ [d6])) none) (jz aQ p0 (d6 + 1) eL)
def ni (xb : GBk) (xp : List Int) (aQ : Int) (l0 : List (GBe × Int)) : Option ((GSpan) × List (GBe × Int)) := cond (aI xb.Strokes) (lbind (jz aQ xb.Strokes 0 ([] : List Int)) (fun r3 => some r3) (fun c1 => Option.bind (nj xb xp c1 l0) (fun r2 => some (r2.1, r2.2))) (fun _ _ => none)) none
theorem Et (xb : GBk) (xp : List Int) (aQ : Int) (l0 : List (GBe × Int)) (R : (GSpan) × List (GBe × Int)) (h : ni xb xp aQ l0 = some R) : VUpd Tryz.prog G0 72 (fun β => [.agg [.lit (.int .i64 xb.Apprentices), .sl (aa eI xb.Boards) (List.length xb.Boards) false, .sl (aa cGBs xb.Strokes) (List.length xb.Strokes) false, .sl (aa eI xp) (List.length xp) false, .mp β], .lit (.int .i64 aQ)]) (encM aN bM l0) (encM aN bM R.2) (fun _ => .agg (aP R.1)) := by
 intro ba nx hlt
 have aS := gb (β := ba) (nx := nx) hlt
 refine an.run mixed Tryz.call72 Tryz.func72 rfl (by simp [Tryz.ntmps72]; kernel_rfl) ?_
 obtain ⟨KF, h, kF, kN⟩ := cy h
 simp only [ni] at h
 cases g5 : (aI xb.Strokes)
 ·simp only [g5, hs] at h
  exact absurd h kN
 simp only [g5, hs] at h
 simp only [vz, mq, mqm, vsi, tyf, mqt, aS, g5, nm, seval]
 obtain ⟨K4, h, Eu, rZ, HN, sa⟩ := fO h kN
 obtain ⟨f4, tH, h⟩ := call3 h
 obtain ⟨I4, j0⟩ : ∃ I : Nat → St → Prop, I = (fun m st => ∃ (p4 : List GBs) (bk : Int) (cj : List Int) (jM : VV), m = List.length p4 ∧ 0 ≤ bk ∧ List.drop (Int.toNat bk) xb.Strokes = p4 ∧ st.df = [] ∧ nx + 8 ≤ st.nx ∧ st.H ba = some (.map (encM aN bM l0)) ∧ st.H nx = some (.cells (some 92) ((cGBk xb) ++ [.sl (aa eI xp) (List.length xp) false] ++ [.mp ba])) ∧ st.H (nx + 1) = some (.cells (some 35) ([.lit (.int .i64 0)] ++ [.lit (.int .i64 0)])) ∧ st.tm 1 = .lit (.int .i64 aQ) ∧ st.tm 2 = .ptr nx 0 ∧ st.tm 4 = .ptr (nx + 1) 0 ∧ st.tm 10 = .sl (aa cGBs xb.Strokes) (List.length xb.Strokes) false ∧ st.tm 11 = .lit (.int .i64 (List.length xb.Strokes : Int)) ∧ st.tm 5 = jM ∧ st.tm 12 = .lit (.int .i64 bk) ∧ ((∃ (β : Nat) (el : Option TypeId), jM = .ref β 0 (List.length cj) 1 (List.length cj) ∧ β < st.nx ∧ β ≠ ba ∧ β ≠ nx ∧ β ≠ nx + 1 ∧ st.H β = some (.cells el (aa eI cj))) ∨ (jM = .lit (.slice none 0 0) ∧ cj = [])) ∧ K4 (f4 p4 bk cj)) := ⟨_, rfl⟩
 refine loopK mixed (by kernel_rfl) I4 (List.length xb.Strokes) (by rw [j0]; refine ⟨xb.Strokes, 0, ([] : List Int), .lit (.slice none 0 0), rfl, Int.le_refl _, rfl, rfl, (show nx + 8 ≤ nx + 8 by omega), ?_, ?_, ?_, ?_, ?_, ?_, ?_, ?_, ?_, ?_, Or.inr ⟨rfl, rfl⟩, h⟩ <;> first | (simp only [ua, bm, aS, nm, seval] <;> rfl) | rfl) ?_
 rintro m ⟨tm, H, gW, df⟩ hinv
 rw [j0] at hinv
 obtain ⟨p4, bk, cj, jM, rfl, dX, fF, hdf, tI, H6, H7, H8, e9, aW, aY, bu, br, bL, b3, kH, h⟩ := hinv
 simp only at hdf tI H6 H7 H8 e9 aW aY bu br bL b3 kH
 have c8 := sb (a := nx) (m := 8) (b := gW) (by omega)
 have gf := gb (β := ba) (nx := gW) (by omega)
 subst hdf tH
 rcases kH with ⟨lB, fP, rfl, lC, lD, tJ, tK, j1⟩ | ⟨rfl, rfl⟩
 ·have ff := gb lC
  have fg := ne_f lD
  have j2 := ne_f tJ
  have j3 := ne_f tK
  cases p4 with
  | nil =>
   have bE : (decide (bk < (List.length xb.Strokes : Int))) = false := eM dX fF
   simp only [jz, hs, reduceCtorEq] at h
   replace h := rZ _ h
   try dsimp only at h
   try simp only [hs] at h
   obtain ⟨iy, j4, h⟩ := optI h kN
   try simp only [hs] at h
   simp only [vz, mq, mqm, vsi, tyf, mqt, aS, g5, c8, gf, e9, aW, aY, bu, br, bL, b3, H6, H7, H8, ff, j1, fg, j2, j3, bE, nm, seval]
   refine kupdF (args' := [.agg ((cGBk xb) ++ [.sl (aa eI xp) (List.length xp) false] ++ [.mp ba]), .sl (aa eI cj) (List.length cj) false]) (g := lB) (el := fP) (cs := aa eI cj) (by first | rfl | assumption | (simp only [bc, bf, cl, aS, c8, gf, H6, H7, H8, ff, j1, fg, j2, j3, nm, seval] <;> rfl) | (simp only [bc, bf, eJ, eN, dY, dZ, tyf, mqt, aS, g5, c8, gf, e9, aW, aY, bu, br, bL, b3, H6, H7, H8, ff, j1, fg, j2, j3, bE, nm, seval]; done)) ⟨.same, Frozen.own (el := fP) (cs := aa eI cj) (by first | rfl | assumption | (simp only [bc, bf, cl, aS, c8, gf, H6, H7, H8, ff, j1, fg, j2, j3, nm, seval] <;> rfl) | (simp only [bc, bf, eJ, eN, dY, dZ, tyf, mqt, aS, g5, c8, gf, e9, aW, aY, bu, br, bL, b3, H6, H7, H8, ff, j1, fg, j2, j3, bE, nm, seval]; done)) (eI_ok.treeL _) (iz (w := 1) (enc := eI) (fun _ => rfl) _), trivial⟩ (VUpd.at (β := ba) (y := (fun _ => .agg (aP iy.1))) (sc _ _ _ _ _ j4) (by omega) (by first | rfl | assumption | (simp only [bc, bf, aS, c8, gf, H6, H7, H8, ff, j1, fg, j2, j3, nm, seval] <;> rfl)) (by first | rfl | (simp only [nrm, aB, @bP, @dA] <;> rfl) | (simp only [tyf, mqt, List.cons_append, List.nil_append, nrm, aB, @bP, @dA] <;> rfl)) (dQ (fun _ => rfl) _)) ?_
   refine ec (fun tm => tm 4 = .ptr (nx + 1) 0 ∧ tm 28 = .agg (aP iy.1) ∧ True) (by refine ⟨aY, ?_, trivial⟩ <;> first | (simp only [ua, bm, aS, c8, gf, e9, aW, aY, bu, br, bL, b3, H6, H7, H8, ff, j1, fg, j2, j3, bE, nm, seval] <;> rfl) | rfl) ?_
   rintro tm ⟨bw, aX, _⟩
   have gX := And.intro aS (And.intro g5 (And.intro c8 (And.intro gf (And.intro H6 (And.intro H7 (And.intro H8 (And.intro ff (And.intro j1 (And.intro fg (And.intro j2 (And.intro j3 bE)))))))))))
   try simp only [vz, mq, mqm, vsi, tyf, mqt, gX, bw, aX, nm, seval]
   refine bT (x := (.agg (aP iy.1))) (by first | (simp only [Tryz.results72, resV, resL, resV1, bU, bV, uw, cr, tyf, mqt, gX, bw, aX, nm, seval] <;> rfl) | rfl) ?_
   obtain rfl := kF _ h
   refine ⟨(by first | rfl | assumption | (simp only [bc, bf, gX, nm, seval] <;> rfl)), ?_⟩
   exact sq_of (gn (by first | (simp only [tre, aO, mqr, Bool.and_self]; done) | rfl) rfl)
  | cons e4 p4 =>
   have Ev : (decide (bk < (List.length xb.Strokes : Int))) = true := eO dX fF
   have oz := cO dX fF
   have Ew := eP dX fF g5
   simp only [jz, hs, reduceCtorEq] at h
   cases bW : (e4.Board == aQ)
   ·simp only [bW, hs] at h
    have nk := And.intro aS (And.intro g5 (And.intro c8 (And.intro gf (And.intro H6 (And.intro H7 (And.intro H8 (And.intro ff (And.intro j1 (And.intro fg (And.intro j2 (And.intro j3 (And.intro Ev (And.intro Ew bW)))))))))))))
    simp only [vz, mq, mqm, vsi, tyf, mqt, nk, e9, aW, aY, bu, br, bL, b3, (aM oz), nm, seval]
    exact ⟨List.length p4, Nat.lt_succ_self _, by rw [j0]; refine ⟨p4, bk + 1, cj, .ref lB 0 (List.length cj) 1 (List.length cj), rfl, Int.le_trans dX (Int.le_add_one (Int.le_refl _)), cA dX fF, rfl, (show nx + 8 ≤ gW + 13 by omega), ?_, ?_, ?_, e9, aW, aY, bu, br, ?_, ?_, Or.inl ⟨lB, fP, rfl, (by first | omega | (simp only [nm, seval]; done) | (simp only [nm, seval]; omega)), (by first | omega | (intro hh; simp only [nk, reduceCtorEq] at hh)), (by first | omega | (intro hh; simp only [nk, reduceCtorEq] at hh)), (by first | omega | (intro hh; simp only [nk, reduceCtorEq] at hh)), ?_⟩, (by first | exact h | (simp only [nk]; exact h))⟩ <;> first | (simp only [ua, bm, nk, e9, aW, aY, bu, br, bL, b3, nm, seval] <;> rfl) | rfl⟩
   simp only [bW, hs] at h
   have dR := And.intro aS (And.intro g5 (And.intro c8 (And.intro gf (And.intro H6 (And.intro H7 (And.intro H8 (And.intro ff (And.intro j1 (And.intro fg (And.intro j2 (And.intro j3 (And.intro Ev (And.intro Ew bW)))))))))))))
   cases ed : (roomOk 8 (List.length (cj ++ [bk])))
   ·simp only [ed, hs] at h
    exact absurd h sa
   simp only [ed, hs] at h
   simp only [vz, mq, mqm, vsi, tyf, mqt, dR, e9, aW, aY, bu, br, bL, b3, (aM oz), ed, nm, seval]
   refine k_app (w := 1) (enc := eI) (xs := cj) (ys := ([bk])) (el := fP) (i0 := (some 3)) (fun _ => rfl) gY gZ Tryz.underlying22 (by first | rfl | assumption | (simp only [bc, bf, cl, dR, nm, seval] <;> rfl) | (simp only [bc, bf, eJ, eN, dY, dZ, tyf, mqt, dR, e9, aW, aY, bu, br, bL, b3, (aM oz), ed, nm, seval]; done)) (by first | rfl | assumption | (simp only [bc, bf, cl, dR, nm, seval] <;> rfl) | (simp only [bc, bf, eJ, eN, dY, dZ, tyf, mqt, dR, e9, aW, aY, bu, br, bL, b3, (aM oz), ed, nm, seval]; done)) (Nat.zero_lt_succ _) ed ?_
   simp only [vz, mq, mqm, vsi, tyf, mqt, dR, e9, aW, aY, bu, br, bL, b3, (aM oz), ed, nm, seval]
   exact ⟨List.length p4, Nat.lt_succ_self _, by rw [j0]; refine ⟨p4, bk + 1, (cj ++ [bk]), .ref (gW + 14) 0 (List.length (cj ++ [bk])) 1 (List.length (cj ++ [bk])), rfl, Int.le_trans dX (Int.le_add_one (Int.le_refl _)), cA dX fF, rfl, (show nx + 8 ≤ gW + 18 by omega), ?_, ?_, ?_, e9, aW, aY, bu, br, ?_, ?_, Or.inl ⟨gW + 14, (sameEl fP 3), rfl, (by first | omega | (simp only [nm, seval]; done) | (simp only [nm, seval]; omega)), (by first | omega | (intro hh; simp only [dR, reduceCtorEq] at hh)), (by first | omega | (intro hh; simp only [dR, reduceCtorEq] at hh)), (by first | omega | (intro hh; simp only [dR, reduceCtorEq] at hh)), ?_⟩, (by first | exact h | (simp only [dR]; exact h))⟩ <;> first | (simp only [ua, bm, dR, e9, aW, aY, bu, br, bL, b3, nm, seval] <;> rfl) | rfl⟩
 ·cases p4 with
  | nil =>
   have nn : (decide (bk < (List.length xb.Strokes : Int))) = false := eM dX fF
   simp only [jz, hs, reduceCtorEq] at h
   replace h := rZ _ h
   try dsimp only at h
   try simp only [hs] at h
   obtain ⟨cL, lE, h⟩ := optI h kN
   try simp only [hs] at h
   simp only [vz, mq, mqm, vsi, tyf, mqt, aS, g5, c8, gf, e9, aW, aY, bu, br, bL, b3, H6, H7, H8, nn, nm, seval]
   refine kupd (VUpd.at (β := ba) (y := (fun _ => .agg (aP cL.1))) (sc _ _ _ _ _ lE) (by omega) (by first | rfl | assumption | (simp only [bc, bf, aS, c8, gf, H6, H7, H8, nm, seval] <;> rfl)) (by first | rfl | (simp only [nrm, aB, @bP, @dA] <;> rfl)) (dQ (fun _ => rfl) _)) ?_
   refine ec (fun tm => tm 4 = .ptr (nx + 1) 0 ∧ tm 28 = .agg (aP cL.1) ∧ True) (by refine ⟨aY, ?_, trivial⟩ <;> first | (simp only [ua, bm, aS, c8, gf, e9, aW, aY, bu, br, bL, b3, H6, H7, H8, nn, nm, seval] <;> rfl) | rfl) ?_
   rintro tm ⟨cB, cC, _⟩
   have tL := And.intro aS (And.intro g5 (And.intro c8 (And.intro gf (And.intro H6 (And.intro H7 (And.intro H8 nn))))))
   try simp only [vz, mq, mqm, vsi, tyf, mqt, tL, cB, cC, nm, seval]
   refine bT (x := (.agg (aP cL.1))) (by first | (simp only [Tryz.results72, resV, resL, resV1, bU, bV, uw, cr, tyf, mqt, tL, cB, cC, nm, seval] <;> rfl) | rfl) ?_
   obtain rfl := kF _ h
   refine ⟨(by first | rfl | assumption | (simp only [bc, bf, tL, nm, seval] <;> rfl)), ?_⟩
   exact sq_of (gn (by first | (simp only [tre, aO, mqr, Bool.and_self]; done) | rfl) rfl)
  | cons e4 p4 =>
   have np : (decide (bk < (List.length xb.Strokes : Int))) = true := eO dX fF
   have kI := cO dX fF
   have nq := eP dX fF g5
   simp only [jz, hs, reduceCtorEq] at h
   cases sd : (e4.Board == aQ)
   ·simp only [sd, hs] at h
    have tM := And.intro aS (And.intro g5 (And.intro c8 (And.intro gf (And.intro H6 (And.intro H7 (And.intro H8 (And.intro np (And.intro nq sd))))))))
    simp only [vz, mq, mqm, vsi, tyf, mqt, tM, e9, aW, aY, bu, br, bL, b3, (aM kI), nm, seval]
    exact ⟨List.length p4, Nat.lt_succ_self _, by rw [j0]; refine ⟨p4, bk + 1, ([] : List Int), .lit (.slice none 0 0), rfl, Int.le_trans dX (Int.le_add_one (Int.le_refl _)), cA dX fF, rfl, (show nx + 8 ≤ gW + 13 by omega), ?_, ?_, ?_, e9, aW, aY, bu, br, ?_, ?_, Or.inr ⟨rfl, rfl⟩, (by first | exact h | (simp only [tM]; exact h))⟩ <;> first | (simp only [ua, bm, tM, e9, aW, aY, bu, br, bL, b3, nm, seval] <;> rfl) | rfl⟩
   simp only [sd, hs] at h
   have jN := And.intro aS (And.intro g5 (And.intro c8 (And.intro gf (And.intro H6 (And.intro H7 (And.intro H8 (And.intro np (And.intro nq sd))))))))
   cases nr : (roomOk 8 (List.length (([] : List Int) ++ [bk])))
   ·simp only [nr, hs] at h
    exact absurd h sa
   simp only [nr, hs] at h
   simp only [vz, mq, mqm, vsi, tyf, mqt, jN, e9, aW, aY, bu, br, bL, b3, (aM kI), nr, nm, seval]
   refine o0 (w := 1) (enc := eI) (ys := ([bk])) (i0 := (some 3)) (fun _ => rfl) gY gZ Tryz.underlying22 (by first | rfl | assumption | (simp only [bc, bf, cl, jN, nm, seval] <;> rfl) | (simp only [bc, bf, eJ, eN, dY, dZ, tyf, mqt, jN, e9, aW, aY, bu, br, bL, b3, (aM kI), nr, nm, seval]; done)) (Nat.zero_lt_succ _) nr ?_
   simp only [vz, mq, mqm, vsi, tyf, mqt, jN, e9, aW, aY, bu, br, bL, b3, (aM kI), nr, nm, seval]
   exact ⟨List.length p4, Nat.lt_succ_self _, by rw [j0]; refine ⟨p4, bk + 1, (([] : List Int) ++ [bk]), .ref (gW + 14) 0 (List.length (([] : List Int) ++ [bk])) 1 (List.length (([] : List Int) ++ [bk])), rfl, Int.le_trans dX (Int.le_add_one (Int.le_refl _)), cA dX fF, rfl, (show nx + 8 ≤ gW + 18 by omega), ?_, ?_, ?_, e9, aW, aY, bu, br, ?_, ?_, Or.inl ⟨gW + 14, (some 3), rfl, (by first | omega | (simp only [nm, seval]; done) | (simp only [nm, seval]; omega)), (by first | omega | (intro hh; simp only [jN, reduceCtorEq] at hh)), (by first | omega | (intro hh; simp only [jN, reduceCtorEq] at hh)), (by first | omega | (intro hh; simp only [jN, reduceCtorEq] at hh)), ?_⟩, (by first | exact h | (simp only [jN]; exact h))⟩ <;> first | (simp only [ua, bm, jN, e9, aW, aY, bu, br, bL, b3, nm, seval] <;> rfl) | rfl⟩
def oA (xb : GBk) (xp : List Int) (xs : Int) (l0 : List (GBe × Int)) : Option ((Int) × List (GBe × Int)) := Option.bind (tN xb xp xs 1 l0) (fun r1 => Option.bind (tO xb xp xs 1 r1.2) (fun r2 => some (i64.wrap (r1.1 - r2.1), r2.2)))
theorem Ex (xb : GBk) (xp : List Int) (xs : Int) (l0 : List (GBe × Int)) (R : (Int) × List (GBe × Int)) (h : oA xb xp xs l0 = some R) : VUpd Tryz.prog G0 77 (fun β => [.agg [.lit (.int .i64 xb.Apprentices), .sl (aa eI xb.Boards) (List.length xb.Boards) false, .sl (aa cGBs xb.Strokes) (List.length xb.Strokes) false, .sl (aa eI xp) (List.length xp) false, .mp β], .lit (.int .i64 xs)]) (encM aN bM l0) (encM aN bM R.2) (fun _ => .lit (.int .i64 R.1)) := by
 intro ba nx hlt
 have aS := gb (β := ba) (nx := nx) hlt
 refine an.run mixed Tryz.call77 Tryz.func77 rfl (by simp [Tryz.ntmps77]; kernel_rfl) ?_
 obtain ⟨KF, h, kF, kN⟩ := cy h
 simp only [oA] at h
 simp only [vz, mq, mqm, vsi, tyf, mqt, aS, nm, seval]
 refine nt (fun tm => tm 1 = .lit (.int .i64 xs) ∧ tm 2 = .ptr nx 0 ∧ True) (by refine ⟨?_, ?_, trivial⟩ <;> first | (simp only [ua, bm, aS, nm, seval] <;> rfl) | rfl) ?_
 rintro tm ⟨e3, e4, _⟩
 obtain ⟨r5, o6, h⟩ := optI h kN
 try simp only [hs] at h
 simp only [vz, mq, mqm, vsi, tyf, mqt, aS, e3, e4, nm, seval]
 refine dkupd (VUpd.at (β := ba) (y := (fun _ => .lit (.int .i64 r5.1))) (HO _ _ _ _ _ _ o6) (by omega) (by first | rfl | assumption | (simp only [bc, bf, aS, nm, seval] <;> rfl)) (by first | rfl | (simp only [nrm, aB, @bP, @dA] <;> rfl)) (dQ (fun _ => rfl) _)) ?_
 refine ec (fun tm => tm 1 = .lit (.int .i64 xs) ∧ tm 2 = .ptr nx 0 ∧ tm 7 = .lit (.int .i64 r5.1) ∧ True) (by refine ⟨e3, e4, ?_, trivial⟩ <;> first | (simp only [ua, bm, aS, e3, e4, nm, seval] <;> rfl) | rfl) ?_
 rintro tm ⟨e7, e8, e9, _⟩
 obtain ⟨nu, iD, h⟩ := optI h kN
 try simp only [hs] at h
 simp only [vz, mq, mqm, vsi, tyf, mqt, aS, e7, e8, e9, nm, seval]
 refine dkupd (VUpd.at (β := ba) (y := (fun _ => .lit (.int .i64 nu.1))) (HP _ _ _ _ _ _ iD) (by omega) (by first | rfl | assumption | (simp only [bc, bf, aS, nm, seval] <;> rfl)) (by first | rfl | (simp only [nrm, aB, @bP, @dA] <;> rfl)) (dQ (fun _ => rfl) _)) ?_
 refine ec (fun tm => tm 7 = .lit (.int .i64 r5.1) ∧ tm 10 = .lit (.int .i64 nu.1) ∧ True) (by refine ⟨e9, ?_, trivial⟩ <;> first | (simp only [ua, bm, aS, e7, e8, e9, nm, seval] <;> rfl) | rfl) ?_
 rintro tm ⟨bu, br, _⟩
 simp only [vz, mq, mqm, vsi, tyf, mqt, aS, bu, br, nm, seval]
 refine nv ⟨?_, ?_⟩
 ·simp only [nw, ny, i5, nz, and_true, true_and]
  repeat' (first | exact trivial | refine And.intro ?_ ?_ | rw [i5] | rw [n0] | exact Or.inl (by decide +kernel) | exact Or.inl (by dsimp only; decide +kernel) | (refine Or.inr ⟨?_, ?_⟩ <;> simp; done) | (refine Or.inr ⟨?_, ?_⟩ <;> simp <;> omega) | (refine Or.inr ⟨?_, ?_⟩ <;> simp [VEff.wr] <;> omega))
 try simp only [vz, mq, mqm, vsi, tyf, mqt, aS, bu, br, nm, seval]
 refine bT (x := (.lit (.int .i64 (i64.wrap (r5.1 - nu.1))))) (by first | (simp only [Tryz.results77, resV, resL, resV1, bU, bV, uw, cr, tyf, mqt, aS, nm, seval] <;> rfl) | rfl) ?_
 obtain rfl := kF _ h
 refine ⟨(by first | rfl | assumption | (simp only [bc, bf, aS, nm, seval] <;> rfl)), ?_⟩
 exact sq_of (gn (by first | (simp only [tre, aO, mqr, Bool.and_self]; done) | rfl) rfl)

end Go.V
end
section
namespace Go.V
open Go Go.Proofs IntKind
theorem Len.of {b : GBk} (h : aI b.Boards = true ∧ aI b.Strokes = true ∧ ∀ y ∈ b.Strokes, aI y.Needs = true) : Len b := ⟨tP h.1, tP h.2.1, fun s hs => tP (h.2.2 s hs)⟩
theorem Ey : ∀ (p : List GBs) (c : Int), lF p c = some (.go ()) ∨ lF p c = some (.ret false)
 | [], c => .inl rfl
 | s :: p, c => by
  simp only [lF]
  cases decide (c < 9) with
  | false => exact .inl rfl
  | true =>
   cases decide ((s.Needs.length : Int) > 8) with
   | true => exact .inr rfl
   | false => exact Ey p (c + 1)
theorem HQ {b : GBk} (h : Len b) : n2 b = some false ∨ (n2 b = some true ∧ BOk b) := by
 unfold n2 se
 rw [gp h.st, cond_true, tQ h]
 rcases Ey b.Strokes 0 with e | e
 ·rw [e]
  simp only [lbind]
  cases h1 : (decide ((b.Boards.length : Int) ≤ 5)) with
  | false => exact .inl rfl
  | true =>
   cases h2 : (decide ((b.Strokes.length : Int) ≤ 8)) with
   | false => exact .inl rfl
   | true =>
    cases h3 : benchB b with
    | false => exact .inl rfl
    | true => exact .inr ⟨rfl, n3.1 h3⟩
 ·rw [e]; exact .inl rfl
theorem BOk.len {b : GBk} (h : BOk b) (hl : ∀ s ∈ b.Strokes, s.Needs.length < 9223372036854775808) : Len b := ⟨by have := h.nb; omega, by have := h.ns; omega, hl⟩
structure HOk (n : Int) (s : GBs) : Prop where
 nd : ∀ k ∈ s.Needs, 0 ≤ k ∧ k < n
 ad : adjB s.Needs = true
 hr : 0 ≤ s.Hours.Low ∧ s.Hours.Low ≤ 15 ∧ 0 ≤ s.Hours.High ∧ s.Hours.High ≤ 15
structure BH (b : GBk) : Prop where
 ns : 1 ≤ b.Strokes.length ∧ b.Strokes.length ≤ 6
 s : ∀ {i : Nat} {s : GBs}, b.Strokes[i]? = some s → HOk i s
theorem BOk.h {b : GBk} (h : BOk b) : BH b := ⟨h.ns, fun hs => by have := h.s hs; have h2 := this.hr; exact ⟨this.nd, this.ad, by omega⟩⟩
def nF (b : GBk) (s : Nat) : List Int := match b.Strokes[s]? with | some x => x.Needs | none => []
def dF (b : GBk) (h : Int) (s : Nat) : Int := match b.Strokes[s]? with | some x => if h = 0 then x.Hours.Low else x.Hours.High | none => 0
def hF (pl : List Int) (s : Nat) : Int := (pl[s]?).getD 0
def EE (b : GBk) (pl : List Int) (h : Int) (s : Nat) : Int := Ed (hF pl) (nF b) (dF b h) s
def BB (b : GBk) (pl : List Int) (h : Int) (s : Nat) : Int := Bg (hF pl) (nF b) (dF b h) s
def FF (b : GBk) (pl : List Int) (h : Int) (s : Nat) : Int := frF (hF pl) (EE b pl h) (hF pl s) s
theorem BH.nd {b : GBk} (h : BH b) : NdOk (nF b) := by
 intro s k hk
 unfold nF at hk
 split at hk
 ·rename_i x hx
  have := (h.s hx).nd k hk
  omega
 ·cases hk
theorem BH.d {b : GBk} (h : BH b) (hr : Int) (s : Nat) : 0 ≤ dF b hr s ∧ dF b hr s ≤ 15 := by
 unfold dF
 split
 ·rename_i x hx
  have := (h.s hx).hr
  split <;> omega
 ·omega
theorem EE_b {b : GBk} (h : BH b) (pl : List Int) (hr : Int) {s : Nat} (hs : s < b.Strokes.length) : 0 ≤ EE b pl hr s ∧ EE b pl hr s ≤ 90 := by
 have h1 := Ed_nn (hd := hF pl) h.nd (fun k => (h.d hr k).1) s
 have h2 := Ez (hd := hF pl) h.nd (h.d hr) s
 have := h.ns
 unfold EE
 omega
theorem EE_eq {b : GBk} (h : BH b) (pl : List Int) (hr : Int) (s : Nat) : EE b pl hr s = BB b pl hr s + dF b hr s := Ed_eq h.nd s
theorem BB_b {b : GBk} (h : BH b) (pl : List Int) (hr : Int) {s : Nat} (hs : s < b.Strokes.length) : 0 ≤ BB b pl hr s ∧ BB b pl hr s ≤ 90 := by
 have h1 := EE_b h pl hr hs
 have h2 := h.d hr s
 have h3 := Bg_nn (hd := hF pl) (nd := nF b) (d := dF b hr) s
 rw [EE_eq h] at h1
 have h3 : 0 ≤ BB b pl hr s := h3
 omega
theorem tR {b : GBk} (pl : List Int) (hr : Int) (s : Nat) : BB b pl hr s = max (max 0 (FF b pl hr s)) (mxL ((nF b s).map fun k => EE b pl hr k.toNat)) := rfl
def InvE (b : GBk) (pl : List Int) (l : List (GBe × Int)) : Prop := ∀ p ∈ l, p.2 = EE b pl p.1.hours p.1.stroke.toNat
theorem InvE.nil {b : GBk} {pl : List Int} : InvE b pl [] := fun _ h => by cases h
theorem InvE.has {b : GBk} {pl : List Int} {l : List (GBe × Int)} (h : InvE b pl l) {k : GBe} (hk : mapHas cm l k = true) : mapGet cm 0 l k = EE b pl k.hours k.stroke.toNat := by
 unfold mapHas at hk
 unfold mapGet
 cases hi : kIdx cm k (l.map (·.1)) 0 with
 | none => rw [hi] at hk; cases hk
 | some i =>
  obtain ⟨_, e, he, hq⟩ := sf _ _ _ hi
  rw [Nat.sub_zero, List.getElem?_map] at he
  cases hg : l[i]? with
  | none => rw [hg] at he; cases he
  | some p =>
   rw [hg] at he
   simp only [Option.map_some, Option.some.injEq] at he
   have hpe := iE _ _ hq
   have hv := h p (List.mem_of_getElem? hg)
   rw [he, ← hpe] at hv
   simp only [hg, hv]
theorem oB {K V : Type} {q : K → K → Bool} {k : K} {v : V} : ∀ {l : List (K × V)} {p : K × V}, p ∈ setR q k v l → p ∈ l ∨ p.2 = v ∧ (p.1 = k ∨ q k p.1 = true)
 | [], p, h => by
  simp only [setR, List.mem_singleton] at h
  exact .inr ⟨by rw [h], .inl (by rw [h])⟩
 | a :: l, p, h => by
  unfold setR at h
  split at h
  ·rename_i hq
   rcases List.mem_cons.1 h with rfl | h
   ·exact .inr ⟨rfl, .inl rfl⟩
   ·exact .inl (List.mem_cons_of_mem _ h)
  ·rcases List.mem_cons.1 h with rfl | h
   ·exact .inl (List.mem_cons_self ..)
   ·exact (oB h).imp (List.mem_cons_of_mem _) id
theorem InvE.set {b : GBk} {pl : List Int} {l : List (GBe × Int)} (h : InvE b pl l) (s hr : Int) : InvE b pl (mapSet cm l ⟨s, hr⟩ (EE b pl hr s.toNat)) := by
 intro p hp
 rw [E0] at hp
 rcases oB hp with hp | ⟨h1, h2⟩
 ·exact h p hp
 ·have e : p.1 = ⟨s, hr⟩ := by
   rcases h2 with h2 | h2
   ·exact h2
   ·exact (iE _ _ h2).symm
  rw [h1, e]
abbrev RC := GBk → List Int → Int → Int → List (GBe × Int) → Option (Int × List (GBe × Int))
def RcOk (rc : RC) (b : GBk) (pl : List Int) (h : Int) (n : Nat) : Prop := ∀ (k : Int) l, 0 ≤ k → k.toNat < n → InvE b pl l → ∃ l', rc b pl k h l = some (EE b pl h k.toNat, l') ∧ InvE b pl l'
theorem room8 {n : Nat} (h : n ≤ 1000) : roomOk 8 n = true := by simp [roomOk]; omega
theorem E1 : ∀ (p : List Int) (i c : Int), n4 p i c = some (.go (p.foldl max c))
 | [], _, _ => rfl
 | e :: p, i, c => by
  simp only [n4, E1 p, List.foldl_cons]
  have : (if c < e then e else c) = max c e := by split <;> omega
  rw [this]
theorem sg {l : List Int} (h : l.length < 9223372036854775808) : kJ l = some (mxL l) := by
 unfold kJ
 rw [gp h, cond_true, E1]
 rfl
theorem getP {pl : List Int} {n : Nat} {s : Int} (hl : pl.length = n) (h0 : 0 ≤ s) (h1 : s.toNat < n) : getI pl s = some (hF pl s.toNat) := by
 unfold getI hF
 rw [if_pos h0, List.getElem?_eq_getElem (by omega)]
 rfl
theorem oC {rc : RC} {b : GBk} {pl : List Int} {h : Int} {s : Int} {N : Nat} (hp : pl.length = N) (gq : 0 ≤ s) (hs : s.toNat < N) (hN : N ≤ 6) (hrc : RcOk rc b pl h s.toNat) {l : List (GBe × Int)} (hl : InvE b pl l) :
  ∀ (k0 k : Nat), k < k0 → k ≤ s.toNat → ∃ l', lbind (lG rc b pl s h l k0 ((k : Int) - 1)) (fun r => some r) (fun _ => some (0, l)) (fun _ _ => none) = some (frF (hF pl) (EE b pl h) (hF pl s.toNat) k, l') ∧ InvE b pl l'
 | 0, _, hk, _ => absurd hk (Nat.not_lt_zero _)
 | k0 + 1, 0, _, _ => by
  simp only [lG]
  rw [decide_eq_false (by omega), cond_false]
  exact ⟨l, rfl, hl⟩
 | k0 + 1, k + 1, hk, hks => by
  simp only [lG]
  rw [decide_eq_true (by omega), cond_true, getP hp (by omega) (by omega), getP hp gq hs]
  have e : (((k + 1 : Nat) : Int) - 1).toNat = k := by omega
  simp only [Option.bind_some, e]
  unfold frF
  by_cases hh : hF pl k = hF pl s.toNat
  ·obtain ⟨l', e1, hl'⟩ := hrc (((k + 1 : Nat) : Int) - 1) l (by omega) (by omega) hl
   rw [show (hF pl k == hF pl s.toNat) = true by simpa using hh, cond_true, e1, if_pos hh, e]
   exact ⟨l', rfl, hl'⟩
  ·rw [show (hF pl k == hF pl s.toNat) = false by simpa using hh, cond_false, if_neg hh, gu (by omega) (by omega), show ((k + 1 : Nat) : Int) - 1 - 1 = (k : Int) - 1 by omega]
   exact oC hp gq hs hN hrc hl k0 k (by omega) (by omega)
theorem oD {rc : RC} {b : GBk} {pl : List Int} {h : Int} {s : Int} {N : Nat} (hp : pl.length = N) (gq : 0 ≤ s) (hs : s.toNat < N) (hN : N ≤ 6) (hrc : RcOk rc b pl h s.toNat) {l : List (GBe × Int)} (hl : InvE b pl l) :
  ∃ l', n5 rc b pl s h l = some (FF b pl h s.toNat, l') ∧ InvE b pl l' := by
 unfold n5 FF
 have := oC hp gq hs hN hrc hl 1000000 s.toNat (by omega) (Nat.le_refl _)
 rw [gu (by omega) (by omega)]
 rw [show ((s.toNat : Nat) : Int) - 1 = s - 1 by omega] at this
 exact this
theorem E2 {rc : RC} {b : GBk} {pl : List Int} {h : Int} {n : Nat} (hrc : RcOk rc b pl h n) : ∀ (p : List Int) (i : Int) (acc : List Int) (l : List (GBe × Int)), (∀ k ∈ p, 0 ≤ k ∧ k.toNat < n) → acc.length + p.length ≤ 1000 → InvE b pl l →
  ∃ l', jO rc b pl h p i acc l = some (.go (acc ++ p.map (fun k => EE b pl h k.toNat), l')) ∧ InvE b pl l'
 | [], i, acc, l, _, _, hl => ⟨l, by simp [jO], hl⟩
 | k :: p, i, acc, l, hk, hn, hl => by
  have h1 := hk k (List.mem_cons_self ..)
  obtain ⟨l1, e1, cI⟩ := hrc k l h1.1 h1.2 hl
  simp only [jO, e1, Option.bind_some]
  rw [room8 (by simp at hn ⊢; omega), cond_true]
  obtain ⟨l2, e2, fu⟩ := E2 hrc p (i + 1) (acc ++ [EE b pl h k.toNat]) l1 (fun k hk' => hk k (List.mem_cons_of_mem _ hk')) (by simp at hn ⊢; omega) cI
  exact ⟨l2, by rw [e2]; simp, fu⟩
theorem E3 {rc : RC} {b : GBk} {pl : List Int} {h : Int} {n : Nat} (hrc : RcOk rc b pl h n) {p : List Int} (hk : ∀ k ∈ p, 0 ≤ k ∧ k.toNat < n) (hn : p.length ≤ 1000) {l : List (GBe × Int)} (hl : InvE b pl l) :
  ∃ l', n6 rc b pl p h l = some (p.map (fun k => EE b pl h k.toNat), l') ∧ InvE b pl l' := by
 obtain ⟨l', e, hl'⟩ := E2 hrc p 0 [] l hk (by simpa using hn) hl
 unfold n6
 rw [gp (by omega), cond_true, e]
 exact ⟨l', rfl, hl'⟩
theorem E4 : ∀ (l : List Int) (a : Int), adjB (a :: l) = true → ∀ m : Int, (∀ k ∈ a :: l, k < m) → (l.length : Int) < m - a
 | [], a, _, m, h => by have := h a (by simp); simp; omega
 | e :: l, a, h, m, hm => by
  have h' : (decide (a < e) && adjB (e :: l)) = true := h
  simp only [Bool.and_eq_true, decide_eq_true_eq] at h'
  have := E4 l e h'.2 m (fun k hk => hm k (List.mem_cons_of_mem _ hk))
  simp only [List.length_cons]
  omega
theorem HOk.few {n : Int} {s : GBs} (h : HOk n s) (hn : n ≤ 6) : s.Needs.length ≤ 6 := by
 cases e : s.Needs with
 | nil => simp
 | cons a l =>
  have h1 := h.ad
  rw [e] at h1
  have := E4 l a h1 n (fun k hk => (h.nd k (by rw [e]; exact hk)).2)
  have h2 := h.nd a (by rw [e]; simp)
  simp only [List.length_cons]
  omega
theorem getS {b : GBk} {s : Int} (h0 : 0 ≤ s) (h1 : s.toNat < b.Strokes.length) : ∃ x, getI b.Strokes s = some x ∧ b.Strokes[s.toNat]? = some x := by
 refine ⟨b.Strokes[s.toNat], ?_, List.getElem?_eq_getElem h1⟩
 unfold getI
 rw [if_pos h0, List.getElem?_eq_getElem h1]
theorem E5 {rc : RC} {b : GBk} (hb : BH b) {pl : List Int} (hp : pl.length = b.Strokes.length) {h : Int} {s : Int} (gq : 0 ≤ s) (hs : s.toNat < b.Strokes.length) (hrc : RcOk rc b pl h s.toNat) {l : List (GBe × Int)} (hl : InvE b pl l) :
  ∃ l', n7 rc b pl s h l = some (BB b pl h s.toNat, l') ∧ InvE b pl l' := by
 have hns := hb.ns
 obtain ⟨x, e1, e2⟩ := getS gq hs
 have hx := hb.s e2
 have hfew := hx.few (by omega)
 obtain ⟨l1, f1, cI⟩ := oD hp gq hs (by omega) hrc hl
 obtain ⟨l2, f2, fu⟩ := E3 hrc (p := x.Needs) (fun k hk => by have := hx.nd k hk; omega) (by omega) cI
 unfold n7
 simp only [f1, e1, f2, Option.bind_some]
 rw [sg (by simp; omega)]
 simp only [Option.bind_some]
 rw [sg (by simp)]
 refine ⟨l2, ?_, fu⟩
 simp only [Option.bind_some, tR, nF, e2]
 rfl
theorem tS {b : GBk} {pl : List Int} {s : Int} (h0 : 0 ≤ s) (h1 : s.toNat < b.Strokes.length) : oE b pl s = some (dF b 0 s.toNat) := by
 obtain ⟨x, e1, e2⟩ := getS h0 h1
 simp [oE, e1, dF, e2]
theorem HR {b : GBk} {pl : List Int} {s : Int} (h0 : 0 ≤ s) (h1 : s.toNat < b.Strokes.length) : oF b pl s = some (dF b 1 s.toNat) := by
 obtain ⟨x, e1, e2⟩ := getS h0 h1
 simp [oF, e1, dF, e2]
theorem tT {rc : RC} {b : GBk} (hb : BH b) {pl : List Int} (hp : pl.length = b.Strokes.length) {h : Int} (hh : h = 0 ∨ h = 1) {s : Int} (gq : 0 ≤ s) (hs : s.toNat < b.Strokes.length) (hrc : RcOk rc b pl h s.toNat) {l : List (GBe × Int)} (hl : InvE b pl l) :
  ∃ l', oG rc b pl s h l = some (EE b pl h s.toNat, l') ∧ InvE b pl l' := by
 unfold oG
 cases hm : mapHas cm l ⟨s, h⟩ with
 | true =>
  rw [cond_true, hl.has hm]
  exact ⟨l, rfl, hl⟩
 | false =>
  obtain ⟨l1, e1, cI⟩ := E5 hb hp gq hs hrc hl
  have h1 := BB_b hb pl h hs
  have h2 := hb.d h s.toNat
  rw [cond_false, e1, Option.bind_some]
  rcases hh with rfl | rfl
  ·rw [tS gq hs]
   simp only [Option.bind_some, beq_self_eq_true, cond_true]
   rw [gu (by omega) (by omega), ← EE_eq hb]
   exact ⟨_, rfl, cI.set s 0⟩
  ·rw [HR gq hs]
   simp only [Option.bind_some, beq_self_eq_true, cond_true, show ((1 : Int) == 0) = false from rfl, cond_false]
   rw [gu (by omega) (by omega), ← EE_eq hb]
   exact ⟨_, rfl, cI.set s 1⟩
theorem sh {b : GBk} (hb : BH b) {pl : List Int} (hp : pl.length = b.Strokes.length) {h : Int} (hh : h = 0 ∨ h = 1) : ∀ (f n : Nat), n ≤ f → n ≤ b.Strokes.length → RcOk (gEnd f) b pl h n
 | 0, n, hn, _ => fun k l h0 h1 hl => absurd h1 (by omega)
 | f + 1, n, hn, hnl => fun k l h0 h1 hl => tT hb hp hh h0 (by omega) (sh hb hp hh f k.toNat (by omega) (by omega)) hl
section
variable {b : GBk} (hb : BH b) {pl : List Int} (hp : pl.length = b.Strokes.length) {h : Int} (hh : h = 0 ∨ h = 1) {l : List (GBe × Int)} (hl : InvE b pl l)
include hb hp hh hl
theorem tU {s : Int} (h0 : 0 ≤ s) (h1 : s.toNat < b.Strokes.length) : ∃ l', tO b pl s h l = some (FF b pl h s.toNat, l') ∧ InvE b pl l' :=
 oD hp h0 h1 hb.ns.2 (sh hb hp hh 8 s.toNat (by have := hb.ns; omega) (by omega)) hl
theorem tV {s : Int} (h0 : 0 ≤ s) (h1 : s.toNat < b.Strokes.length) : ∃ l', tN b pl s h l = some (BB b pl h s.toNat, l') ∧ InvE b pl l' :=
 E5 hb hp h0 h1 (sh hb hp hh 8 s.toNat (by have := hb.ns; omega) (by omega)) hl
theorem E6 {p : List Int} (hk : ∀ k ∈ p, 0 ≤ k ∧ k.toNat < b.Strokes.length) (hn : p.length ≤ 1000) : ∃ l', si b pl p h l = some (p.map (fun k => EE b pl h k.toNat), l') ∧ InvE b pl l' :=
 E3 (sh hb hp hh 8 b.Strokes.length (by have := hb.ns; omega) (Nat.le_refl _)) hk hn hl
end
section
variable {b : GBk} (hb : BH b) {pl : List Int} (hp : pl.length = b.Strokes.length) {l : List (GBe × Int)} (hl : InvE b pl l)
include hb hp hl
theorem oH {p : List Int} (hk : ∀ k ∈ p, 0 ≤ k ∧ k.toNat < b.Strokes.length) (hn : p.length ≤ 1000) : ∃ l', nj b pl p l = some (⟨mxL (p.map fun k => EE b pl 0 k.toNat), mxL (p.map fun k => EE b pl 1 k.toNat)⟩, l') ∧ InvE b pl l' := by
 obtain ⟨l1, e1, cI⟩ := E6 hb hp (.inl rfl) hl hk hn
 obtain ⟨l2, e2, fu⟩ := E6 hb hp (.inr rfl) cI hk hn
 unfold nj
 simp only [e1, Option.bind_some]
 rw [sg (by simp; omega)]
 simp only [e2, Option.bind_some]
 rw [sg (by simp; omega)]
 exact ⟨l2, rfl, fu⟩
theorem tW {s : Int} (h0 : 0 ≤ s) (h1 : s.toNat < b.Strokes.length) : ∃ l', oA b pl s l = some (BB b pl 1 s.toNat - FF b pl 1 s.toNat, l') ∧ InvE b pl l' := by
 obtain ⟨l1, e1, cI⟩ := tV hb hp (.inr rfl) hl h0 h1
 obtain ⟨l2, e2, fu⟩ := tU hb hp (.inr rfl) cI h0 h1
 have h2 := BB_b hb pl 1 h1
 have h3 : 0 ≤ FF b pl 1 s.toNat := lH (fun k => Ed_nn hb.nd (fun k => (hb.d 1 k).1) k) _
 have h4 : FF b pl 1 s.toNat ≤ BB b pl 1 s.toNat := oI _
 unfold oA
 simp only [e1, e2, Option.bind_some]
 rw [gu (by omega) (by omega)]
 exact ⟨l2, rfl, fu⟩
end
def itsF (bd : Int) : List GBs → Int → List Int
 | [], _ => []
 | s :: p, c => if s.Board = bd then c :: itsF bd p (c + 1) else itsF bd p (c + 1)
theorem its_b {bd : Int} : ∀ (p : List GBs) (c : Int), ∀ k ∈ itsF bd p c, c ≤ k ∧ k < c + p.length
 | [], _, _, h => by cases h
 | s :: p, c, k, h => by
  unfold itsF at h
  simp only [List.length_cons]
  split at h
  ·rcases List.mem_cons.1 h with rfl | h
   ·omega
   ·have := its_b p (c + 1) k h; omega
  ·have := its_b p (c + 1) k h; omega
theorem oJ {bd : Int} : ∀ (p : List GBs) (c : Int), (itsF bd p c).length ≤ p.length
 | [], _ => Nat.le_refl _
 | s :: p, c => by
  have := oJ (bd := bd) p (c + 1)
  unfold itsF
  split
  ·simp only [List.length_cons]; omega
  ·simp only [List.length_cons]; omega
theorem tX {bd : Int} : ∀ (p : List GBs) (c : Int) (acc : List Int), acc.length + p.length ≤ 1000 → jz bd p c acc = some (.go (acc ++ itsF bd p c))
 | [], _, acc, _ => by simp [jz, itsF]
 | s :: p, c, acc, hn => by
  simp only [List.length_cons] at hn
  simp only [jz, itsF]
  by_cases h : s.Board = bd
  ·rw [show (s.Board == bd) = true by simpa using h, cond_true, room8 (by simp; omega), cond_true, tX p (c + 1) _ (by simp; omega), if_pos h]
   simp
  ·rw [show (s.Board == bd) = false by simpa using h, cond_false, tX p (c + 1) _ (by omega), if_neg h]
def DN (b : GBk) (pl : List Int) (bd : Int) : GSpan := ⟨mxL ((itsF bd b.Strokes 0).map fun k => EE b pl 0 k.toNat), mxL ((itsF bd b.Strokes 0).map fun k => EE b pl 1 k.toNat)⟩
theorem oL {b : GBk} (hb : BH b) {pl : List Int} (hp : pl.length = b.Strokes.length) (bd : Int) {l : List (GBe × Int)} (hl : InvE b pl l) : ∃ l', ni b pl bd l = some (DN b pl bd, l') ∧ InvE b pl l' := by
 have hns := hb.ns
 have h1 := oJ (bd := bd) b.Strokes 0
 obtain ⟨l', e, hl'⟩ := oH hb hp hl (p := itsF bd b.Strokes 0) (fun k hk => by have := its_b b.Strokes 0 k hk; omega) (by omega)
 unfold ni
 rw [gp (by omega), cond_true, tX b.Strokes 0 [] (by simp; omega), List.nil_append]
 simp only [lbind, e, Option.bind_some]
 exact ⟨l', rfl, hl'⟩
end Go.V
end
section
namespace Go.V
open Go Go.Proofs IntKind
def iF (ah : GBk) (ae : List Int) : List GBs → Int → (List GSpan) → (List (GBe × Int)) → Option (LOut ((List GSpan) × Int) ((List GSpan) × (List (GBe × Int))))
 | [], cn, bx, bH => some (.go (bx, bH))
 | e0 :: p0, cn, bx, bH => Option.bind (nj ah ae ([cn]) bH) (fun r4 => cond (roomOk 16 (List.length (bx ++ [r4.1]))) (iF ah ae p0 (cn + 1) (bx ++ [r4.1]) r4.2) none)
def oM (ah : GBk) (ae : List Int) : Option ((List GSpan) × Int) := Option.bind (kK ah) (fun r1 => cond (r1) (Option.bind (kL ah ae) (fun r2 => cond (r2) (cond (aI ah.Strokes) (lbind (iF ah ae ah.Strokes 0 ([] : List GSpan) ([] : List (GBe × Int))) (fun r6 => some r6) (fun c5 => some (c5.1, 0)) (fun _ _ => none)) none) (some (([] : List GSpan), 2)))) (some (([] : List GSpan), 2)))
theorem HS (ah : GBk) (ae : List Int) (R : (List GSpan) × Int) (h : oM ah ae = some R) : ai Tryz.prog G0 22 [.agg (cGBk ah), .sl (aa eI ae) (List.length ae) false] (.tree (.tup [.sl (aa aP R.1) (List.length R.1) false, .lit (.int .i64 R.2)])) := by
 refine ai.runR mixed Tryz.call22 Tryz.func22 rfl (by simp [Tryz.ntmps22]; kernel_rfl) ?_
 obtain ⟨KF, h, kF, kN⟩ := cy h
 simp only [oM] at h
 obtain ⟨r7, o8, h⟩ := optI h kN
 try simp only [hs] at h
 simp only [vz, mq, mqm, vsi, tyf, mqt, nm, seval]
 refine ktree (args0 := [.agg (cGBk ah)]) (by first | (simp only [nrm, aB, @bP] <;> rfl) | rfl) (by simp only [tre, aO, mqr, Bool.and_self]) (sj _ _ o8) ?_
 refine bF (fun tm => tm 1 = .sl (aa eI ae) (List.length ae) false ∧ tm 2 = .ptr 0 0 ∧ tm 10 = .lit (.bool r7) ∧ True) (by refine ⟨?_, ?_, ?_, trivial⟩ <;> first | (simp only [ua, bm, nm, seval] <;> rfl) | rfl) ?_
 rintro tm ⟨e9, aW, aY, _⟩
 cases aU : (r7)
 ·simp only [aU, hs] at h
  try simp only [vz, mq, mqm, vsi, tyf, mqt, e9, aW, aY, aU, nm, seval]
  refine bT (x := (.tup [.lit (.slice none 0 0), .lit (.int .i64 2)])) (by first | (simp only [Tryz.results22, resV, resL, resV1, bU, bV, uw, cr, tyf, mqt, aU, nm, seval] <;> rfl) | rfl) ?_
  obtain rfl := kF _ h
  refine fh ?_ ?_
  ·simp only [tre, aO, mqr, Bool.and_self]
  ·first | (simp only [outV, uw, fv, cr, tyf, mqt, nrm, aB, e9, aW, aY, aU, nm, seval] <;> rfl) | rfl
 simp only [aU, hs] at h
 obtain ⟨iG, lI, h⟩ := optI h kN
 try simp only [hs] at h
 simp only [vz, mq, mqm, vsi, tyf, mqt, e9, aW, aY, aU, nm, seval]
 refine ktree (args0 := [.agg (cGBk ah), .sl (aa eI ae) (List.length ae) false]) (by first | (simp only [nrm, aB, @bP] <;> rfl) | rfl) (by simp only [tre, aO, mqr, Bool.and_self]) (sk _ _ _ lI) ?_
 refine bF (fun tm => tm 1 = .sl (aa eI ae) (List.length ae) false ∧ tm 2 = .ptr 0 0 ∧ tm 12 = .lit (.bool false) ∧ tm 15 = .lit (.bool iG) ∧ True) (by refine ⟨e9, aW, ?_, ?_, trivial⟩ <;> first | (simp only [ua, bm, e9, aW, aY, aU, nm, seval] <;> rfl) | rfl) ?_
 rintro tm ⟨b3, bI, b2, bl, _⟩
 cases bj : (iG)
 ·simp only [bj, hs] at h
  try simp only [vz, mq, mqm, vsi, tyf, mqt, aU, b3, bI, b2, bl, bj, nm, seval]
  refine bT (x := (.tup [.lit (.slice none 0 0), .lit (.int .i64 2)])) (by first | (simp only [Tryz.results22, resV, resL, resV1, bU, bV, uw, cr, tyf, mqt, aU, bj, nm, seval] <;> rfl) | rfl) ?_
  obtain rfl := kF _ h
  refine fh ?_ ?_
  ·simp only [tre, aO, mqr, Bool.and_self]
  ·first | (simp only [outV, uw, fv, cr, tyf, mqt, nrm, aB, aU, b3, bI, b2, bl, bj, nm, seval] <;> rfl) | rfl
 simp only [bj, hs] at h
 try simp only [vz, mq, mqm, vsi, tyf, mqt, aU, b3, bI, b2, bl, bj, nm, seval]
 refine kopen ?_
 rw [sm]
 refine an.run mixed Tryz.call69 Tryz.func69 rfl (by simp [Tryz.ntmps69]; kernel_rfl) ?_
 try simp only [vz, mq, mqm, vsi, tyf, mqt, aU, bj, nm, seval]
 refine bT (x := (.agg ((cGBk ah) ++ [.sl (aa eI ae) (List.length ae) false] ++ [.mp 21]))) (by first | (simp only [Tryz.results69, resV, resL, resV1, bU, bV, uw, cr, tyf, mqt, aU, bj, nm, seval] <;> rfl) | rfl) ?_
 cases bB : (aI ah.Strokes)
 ·simp only [bB, hs] at h
  exact absurd h kN
 simp only [bB, hs] at h
 simp only [vz, mq, mqm, vsi, tyf, mqt, aU, bj, b3, bI, b2, bl, bB, nm, seval]
 obtain ⟨oN, h, oO, fQ, oP, cP⟩ := fO h kN
 obtain ⟨oQ, iH, h⟩ := call4 h
 obtain ⟨oR, cQ⟩ : ∃ I : Nat → St → Prop, I = (fun m st => ∃ (cb : List GBs) (aw : Int) (aR : List GSpan) (bJ : List (GBe × Int)) (bN : VV), m = List.length cb ∧ 0 ≤ aw ∧ List.drop (Int.toNat aw) ah.Strokes = cb ∧ st.df = [] ∧ 29 ≤ st.nx ∧ st.H 21 = some (.map (encM aN bM bJ)) ∧ st.H 15 = some (.cells (some 92) ((cGBk ah) ++ [.sl (aa eI ae) (List.length ae) false] ++ [.mp 21])) ∧ st.tm 6 = .ptr 15 0 ∧ st.tm 23 = .lit (.int .i64 (List.length ah.Strokes : Int)) ∧ st.tm 7 = bN ∧ st.tm 24 = .lit (.int .i64 aw) ∧ ((∃ (β : Nat) (el : Option TypeId), bN = .ref β 0 (List.length aR) 2 (List.length aR) ∧ β < st.nx ∧ β ≠ 21 ∧ β ≠ 15 ∧ st.H β = some (.cells el (aa aP aR))) ∨ (bN = .lit (.slice none 0 0) ∧ aR = [])) ∧ oN (oQ cb aw aR bJ)) := ⟨_, rfl⟩
 refine loopK mixed (by kernel_rfl) oR (List.length ah.Strokes) (by rw [cQ]; refine ⟨ah.Strokes, 0, ([] : List GSpan), ([] : List (GBe × Int)), .lit (.slice none 0 0), rfl, Int.le_refl _, rfl, rfl, (show 29 ≤ 29 by omega), ?_, ?_, ?_, ?_, ?_, ?_, Or.inr ⟨rfl, rfl⟩, h⟩ <;> first | (simp only [ua, bm, aU, bj, b3, bI, b2, bl, nm, seval] <;> rfl) | rfl) ?_
 rintro m ⟨tm, H, bC, df⟩ hinv
 rw [cQ] at hinv
 obtain ⟨cb, aw, aR, bJ, bN, rfl, bg, bn, hdf, iI, b4, b5, bp, bz, bw, aX, cq, h⟩ := hinv
 simp only at hdf iI b4 b5 bp bz bw aX cq
 have bA := gM (m := 29) (b := bC) (by omega)
 subst hdf iH
 rcases cq with ⟨dB, ct, rfl, iJ, iK, iL, cz⟩ | ⟨rfl, rfl⟩
 ·have de := gb iJ
  have dg := ne_f iK
  have dh := ne_f iL
  cases cb with
  | nil =>
   have cM : (decide (aw < (List.length ah.Strokes : Int))) = false := eM bg bn
   simp only [iF, hs, reduceCtorEq] at h
   replace h := fQ _ h
   try dsimp only at h
   try simp only [hs] at h
   try simp only [vz, mq, mqm, vsi, tyf, mqt, aU, bj, bB, bA, bp, bz, bw, aX, b4, b5, de, cz, dg, dh, cM, nm, seval]
   refine bT (x := (.tup [.ref dB 0 (List.length aR) 2 (List.length aR), .lit (.int .i64 0)])) (by first | (simp only [Tryz.results22, resV, resL, resV1, bU, bV, uw, cr, tyf, mqt, aU, bj, bB, bA, b4, b5, de, cz, dg, dh, cM, nm, seval] <;> rfl) | rfl) ?_
   obtain rfl := kF _ h
   refine fh ?_ ?_
   ·simp only [tre, aO, mqr, Bool.and_self]
   ·first | (simp only [outV, uw, fv, cr, tyf, mqt, nrm, aB, aU, bj, bB, bA, bp, bz, bw, aX, b4, b5, de, cz, dg, dh, cM, nm, seval] <;> rfl) | rfl
  | cons cu cb =>
   have h9 : (decide (aw < (List.length ah.Strokes : Int))) = true := eO bg bn
   have fw := cO bg bn
   have hC := eP bg bn bB
   simp only [iF, hs, reduceCtorEq] at h
   obtain ⟨cL, lE, h⟩ := optI h cP
   try simp only [hs] at h
   simp only [vz, mq, mqm, vsi, tyf, mqt, aU, bj, bB, bA, bp, bz, bw, aX, b4, b5, de, cz, dg, dh, h9, (aM fw), hC, nm, seval]
   refine kupdF (args' := [.agg ((cGBk ah) ++ [.sl (aa eI ae) (List.length ae) false] ++ [.mp 21]), .sl (aa eI ([aw])) (List.length ([aw])) false]) (g := (bC + 6)) (el := (some 3)) (cs := aa eI ([aw])) (by first | rfl | assumption | (simp only [bc, bf, cl, bA, b4, b5, de, cz, dg, dh, nm, seval] <;> rfl) | (simp only [bc, bf, eJ, eN, dY, dZ, tyf, mqt, aU, bj, bB, bA, bp, bz, bw, aX, b4, b5, de, cz, dg, dh, h9, (aM fw), hC, nm, seval]; done)) ⟨.same, Frozen.own (el := (some 3)) (cs := aa eI ([aw])) (by first | rfl | assumption | (simp only [bc, bf, cl, bA, b4, b5, de, cz, dg, dh, nm, seval] <;> rfl) | (simp only [bc, bf, eJ, eN, dY, dZ, tyf, mqt, aU, bj, bB, bA, bp, bz, bw, aX, b4, b5, de, cz, dg, dh, h9, (aM fw), hC, nm, seval]; done)) (eI_ok.treeL _) (iz (w := 1) (enc := eI) (fun _ => rfl) _), trivial⟩ (VUpd.at (β := 21) (y := (fun _ => .agg (aP cL.1))) (sc _ _ _ _ _ lE) (by omega) (by first | rfl | assumption | (simp only [bc, bf, bA, b4, b5, de, cz, dg, dh, nm, seval] <;> rfl)) (by first | rfl | (simp only [nrm, aB, @bP, @dA] <;> rfl) | (simp only [tyf, mqt, List.cons_append, List.nil_append, nrm, aB, @bP, @dA] <;> rfl)) (dQ (fun _ => rfl) _)) ?_
   refine ec (fun tm => tm 6 = .ptr 15 0 ∧ tm 23 = .lit (.int .i64 (List.length ah.Strokes : Int)) ∧ tm 24 = .lit (.int .i64 aw) ∧ tm 27 = .ref dB 0 (List.length aR) 2 (List.length aR) ∧ tm 31 = .agg (aP cL.1) ∧ True) (by refine ⟨bp, bz, aX, ?_, ?_, trivial⟩ <;> first | (simp only [ua, bm, aU, bj, bA, bp, bz, bw, aX, b4, b5, de, cz, dg, dh, h9, hC, nm, seval] <;> rfl) | rfl) ?_
   rintro tm ⟨cB, cC, eK, cD, cE, _⟩
   have cF := And.intro aU (And.intro bj (And.intro bB (And.intro bA (And.intro b4 (And.intro b5 (And.intro de (And.intro cz (And.intro dg (And.intro dh (And.intro h9 hC))))))))))
   cases eg : (roomOk 16 (List.length (aR ++ [cL.1])))
   ·simp only [eg, hs] at h
    exact absurd h cP
   simp only [eg, hs] at h
   simp only [vz, mq, mqm, vsi, tyf, mqt, cF, (aM fw), cB, cC, eK, cD, cE, eg, nm, seval]
   refine k_app (w := 2) (enc := aP) (xs := aR) (ys := ([cL.1])) (el := ct) (i0 := (some 35)) (fun _ => rfl) oS oT Tryz.underlying31 (by first | rfl | assumption | (simp only [bc, bf, jP, cF, nm, seval] <;> rfl) | (simp only [bc, bf, eJ, eN, dY, dZ, tyf, mqt, cF, (aM fw), cB, cC, eK, cD, cE, eg, nm, seval]; done)) (by first | rfl | assumption | (simp only [bc, bf, jP, cF, nm, seval] <;> rfl) | (simp only [bc, bf, eJ, eN, dY, dZ, tyf, mqt, cF, (aM fw), cB, cC, eK, cD, cE, eg, nm, seval]; done)) (Nat.zero_lt_succ _) eg ?_
   simp only [vz, mq, mqm, vsi, tyf, mqt, cF, (aM fw), cB, cC, eK, cD, cE, eg, nm, seval]
   exact ⟨List.length cb, Nat.lt_succ_self _, by rw [cQ]; refine ⟨cb, aw + 1, (aR ++ [cL.1]), cL.2, .ref (bC + 9) 0 (List.length (aR ++ [cL.1])) 2 (List.length (aR ++ [cL.1])), rfl, Int.le_trans bg (Int.le_add_one (Int.le_refl _)), cA bg bn, rfl, (show 29 ≤ bC + 13 by omega), ?_, ?_, cB, cC, ?_, ?_, Or.inl ⟨bC + 9, (sameEl ct 35), rfl, (by first | omega | (simp only [nm, seval]; done) | (simp only [nm, seval]; omega)), (by first | omega | (intro hh; simp only [cF, reduceCtorEq] at hh)), (by first | omega | (intro hh; simp only [cF, reduceCtorEq] at hh)), ?_⟩, (by first | exact h | (simp only [cF]; exact h))⟩ <;> first | (simp only [ua, bm, cF, cB, cC, eK, cD, cE, nm, seval] <;> rfl) | rfl⟩
 ·cases cb with
  | nil =>
   have eQ : (decide (aw < (List.length ah.Strokes : Int))) = false := eM bg bn
   simp only [iF, hs, reduceCtorEq] at h
   replace h := fQ _ h
   try dsimp only at h
   try simp only [hs] at h
   try simp only [vz, mq, mqm, vsi, tyf, mqt, aU, bj, bB, bA, bp, bz, bw, aX, b4, b5, eQ, nm, seval]
   refine bT (x := (.tup [.lit (.slice none 0 0), .lit (.int .i64 0)])) (by first | (simp only [Tryz.results22, resV, resL, resV1, bU, bV, uw, cr, tyf, mqt, aU, bj, bB, bA, b4, b5, eQ, nm, seval] <;> rfl) | rfl) ?_
   obtain rfl := kF _ h
   refine fh ?_ ?_
   ·simp only [tre, aO, mqr, Bool.and_self]
   ·first | (simp only [outV, uw, fv, cr, tyf, mqt, nrm, aB, aU, bj, bB, bA, bp, bz, bw, aX, b4, b5, eQ, nm, seval] <;> rfl) | rfl
  | cons cu cb =>
   have hD : (decide (aw < (List.length ah.Strokes : Int))) = true := eO bg bn
   have gg := cO bg bn
   have hJ := eP bg bn bB
   simp only [iF, hs, reduceCtorEq] at h
   obtain ⟨dC, oU, h⟩ := optI h cP
   try simp only [hs] at h
   simp only [vz, mq, mqm, vsi, tyf, mqt, aU, bj, bB, bA, bp, bz, bw, aX, b4, b5, hD, (aM gg), hJ, nm, seval]
   refine kupdF (args' := [.agg ((cGBk ah) ++ [.sl (aa eI ae) (List.length ae) false] ++ [.mp 21]), .sl (aa eI ([aw])) (List.length ([aw])) false]) (g := (bC + 6)) (el := (some 3)) (cs := aa eI ([aw])) (by first | rfl | assumption | (simp only [bc, bf, cl, bA, b4, b5, nm, seval] <;> rfl) | (simp only [bc, bf, eJ, eN, dY, dZ, tyf, mqt, aU, bj, bB, bA, bp, bz, bw, aX, b4, b5, hD, (aM gg), hJ, nm, seval]; done)) ⟨.same, Frozen.own (el := (some 3)) (cs := aa eI ([aw])) (by first | rfl | assumption | (simp only [bc, bf, cl, bA, b4, b5, nm, seval] <;> rfl) | (simp only [bc, bf, eJ, eN, dY, dZ, tyf, mqt, aU, bj, bB, bA, bp, bz, bw, aX, b4, b5, hD, (aM gg), hJ, nm, seval]; done)) (eI_ok.treeL _) (iz (w := 1) (enc := eI) (fun _ => rfl) _), trivial⟩ (VUpd.at (β := 21) (y := (fun _ => .agg (aP dC.1))) (sc _ _ _ _ _ oU) (by omega) (by first | rfl | assumption | (simp only [bc, bf, bA, b4, b5, nm, seval] <;> rfl)) (by first | rfl | (simp only [nrm, aB, @bP, @dA] <;> rfl) | (simp only [tyf, mqt, List.cons_append, List.nil_append, nrm, aB, @bP, @dA] <;> rfl)) (dQ (fun _ => rfl) _)) ?_
   refine ec (fun tm => tm 6 = .ptr 15 0 ∧ tm 23 = .lit (.int .i64 (List.length ah.Strokes : Int)) ∧ tm 24 = .lit (.int .i64 aw) ∧ tm 27 = .lit (.slice none 0 0) ∧ tm 31 = .agg (aP dC.1) ∧ True) (by refine ⟨bp, bz, aX, ?_, ?_, trivial⟩ <;> first | (simp only [ua, bm, aU, bj, bA, bp, bz, bw, aX, b4, b5, hD, hJ, nm, seval] <;> rfl) | rfl) ?_
   rintro tm ⟨eR, eT, fG, fH, fI, _⟩
   have dD := And.intro aU (And.intro bj (And.intro bB (And.intro bA (And.intro b4 (And.intro b5 (And.intro hD hJ))))))
   cases fj : (roomOk 16 (List.length (([] : List GSpan) ++ [dC.1])))
   ·simp only [fj, hs] at h
    exact absurd h cP
   simp only [fj, hs] at h
   simp only [vz, mq, mqm, vsi, tyf, mqt, dD, (aM gg), eR, eT, fG, fH, fI, fj, nm, seval]
   refine o0 (w := 2) (enc := aP) (ys := ([dC.1])) (i0 := (some 35)) (fun _ => rfl) oS oT Tryz.underlying31 (by first | rfl | assumption | (simp only [bc, bf, jP, dD, nm, seval] <;> rfl) | (simp only [bc, bf, eJ, eN, dY, dZ, tyf, mqt, dD, (aM gg), eR, eT, fG, fH, fI, fj, nm, seval]; done)) (Nat.zero_lt_succ _) fj ?_
   simp only [vz, mq, mqm, vsi, tyf, mqt, dD, (aM gg), eR, eT, fG, fH, fI, fj, nm, seval]
   exact ⟨List.length cb, Nat.lt_succ_self _, by rw [cQ]; refine ⟨cb, aw + 1, (([] : List GSpan) ++ [dC.1]), dC.2, .ref (bC + 9) 0 (List.length (([] : List GSpan) ++ [dC.1])) 2 (List.length (([] : List GSpan) ++ [dC.1])), rfl, Int.le_trans bg (Int.le_add_one (Int.le_refl _)), cA bg bn, rfl, (show 29 ≤ bC + 13 by omega), ?_, ?_, eR, eT, ?_, ?_, Or.inl ⟨bC + 9, (some 35), rfl, (by first | omega | (simp only [nm, seval]; done) | (simp only [nm, seval]; omega)), (by first | omega | (intro hh; simp only [dD, reduceCtorEq] at hh)), (by first | omega | (intro hh; simp only [dD, reduceCtorEq] at hh)), ?_⟩, (by first | exact h | (simp only [dD]; exact h))⟩ <;> first | (simp only [ua, bm, dD, eR, eT, fG, fH, fI, nm, seval] <;> rfl) | rfl⟩
def oV (ah : GBk) (ae : List Int) (aJ : Int) : Option (GSpan × Int) := Option.bind (kK ah) (fun r1 => cond (r1) (Option.bind (kL ah ae) (fun r2 => cond (r2) (Option.bind (lJ ah aJ) (fun r3 => cond (r3) (Option.bind (ni ah ae aJ ([] : List (GBe × Int))) (fun r4 => some (r4.1, 0))) (some ((GSpan.mk 0 0), 2)))) (some ((GSpan.mk 0 0), 2)))) (some ((GSpan.mk 0 0), 2)))
theorem HT (ah : GBk) (ae : List Int) (aJ : Int) (R : GSpan × Int) (h : oV ah ae aJ = some R) : ai Tryz.prog G0 23 [.agg (cGBk ah), .sl (aa eI ae) (List.length ae) false, .lit (.int .i64 aJ)] (.tree (.tup [.agg (aP R.1), .lit (.int .i64 R.2)])) := by
 refine ai.runR mixed Tryz.call23 Tryz.func23 rfl (by simp [Tryz.ntmps23]; kernel_rfl) ?_
 obtain ⟨KF, h, kF, kN⟩ := cy h
 simp only [oV] at h
 obtain ⟨r5, o6, h⟩ := optI h kN
 try simp only [hs] at h
 simp only [vz, mq, mqm, vsi, tyf, mqt, nm, seval]
 refine ktree (args0 := [.agg (cGBk ah)]) (by first | (simp only [nrm, aB, @bP] <;> rfl) | rfl) (by simp only [tre, aO, mqr, Bool.and_self]) (sj _ _ o6) ?_
 refine bF (fun tm => tm 1 = .sl (aa eI ae) (List.length ae) false ∧ tm 2 = .lit (.int .i64 aJ) ∧ tm 3 = .ptr 0 0 ∧ tm 6 = .ptr 1 0 ∧ tm 9 = .lit (.bool r5) ∧ True) (by refine ⟨?_, ?_, ?_, ?_, ?_, trivial⟩ <;> first | (simp only [ua, bm, nm, seval] <;> rfl) | rfl) ?_
 rintro tm ⟨e7, e8, e9, aW, aY, _⟩
 cases aU : (r5)
 ·simp only [aU, hs] at h
  try simp only [vz, mq, mqm, vsi, tyf, mqt, e7, e8, e9, aW, aY, aU, nm, seval]
  refine bT (x := (.tup [.agg ([.lit (.int .i64 0)] ++ [.lit (.int .i64 0)]), .lit (.int .i64 2)])) (by first | (simp only [Tryz.results23, resV, resL, resV1, bU, bV, uw, cr, tyf, mqt, e7, e8, e9, aW, aY, aU, nm, seval] <;> rfl) | rfl) ?_
  obtain rfl := kF _ h
  refine fh ?_ ?_
  ·simp only [tre, aO, mqr, Bool.and_self]
  ·first | (simp only [outV, uw, fv, cr, tyf, mqt, nrm, aB, e7, e8, e9, aW, aY, aU, nm, seval] <;> rfl) | rfl
 simp only [aU, hs] at h
 obtain ⟨iG, lI, h⟩ := optI h kN
 try simp only [hs] at h
 simp only [vz, mq, mqm, vsi, tyf, mqt, e7, e8, e9, aW, aY, aU, nm, seval]
 refine ktree (args0 := [.agg (cGBk ah), .sl (aa eI ae) (List.length ae) false]) (by first | (simp only [nrm, aB, @bP] <;> rfl) | rfl) (by simp only [tre, aO, mqr, Bool.and_self]) (sk _ _ _ lI) ?_
 refine bF (fun tm => tm 1 = .sl (aa eI ae) (List.length ae) false ∧ tm 2 = .lit (.int .i64 aJ) ∧ tm 3 = .ptr 0 0 ∧ tm 6 = .ptr 1 0 ∧ tm 11 = .lit (.bool false) ∧ tm 14 = .lit (.bool iG) ∧ True) (by refine ⟨e7, e8, e9, aW, ?_, ?_, trivial⟩ <;> first | (simp only [ua, bm, e7, e8, e9, aW, aY, aU, nm, seval] <;> rfl) | rfl) ?_
 rintro tm ⟨b3, bI, b2, bl, bG, cu, _⟩
 cases da : (iG)
 ·simp only [da, hs] at h
  try simp only [vz, mq, mqm, vsi, tyf, mqt, aU, b3, bI, b2, bl, bG, cu, da, nm, seval]
  refine bT (x := (.tup [.agg ([.lit (.int .i64 0)] ++ [.lit (.int .i64 0)]), .lit (.int .i64 2)])) (by first | (simp only [Tryz.results23, resV, resL, resV1, bU, bV, uw, cr, tyf, mqt, aU, b3, bI, b2, bl, bG, cu, da, nm, seval] <;> rfl) | rfl) ?_
  obtain rfl := kF _ h
  refine fh ?_ ?_
  ·simp only [tre, aO, mqr, Bool.and_self]
  ·first | (simp only [outV, uw, fv, cr, tyf, mqt, nrm, aB, aU, b3, bI, b2, bl, bG, cu, da, nm, seval] <;> rfl) | rfl
 simp only [da, hs] at h
 obtain ⟨E7, gN, h⟩ := optI h kN
 try simp only [hs] at h
 simp only [vz, mq, mqm, vsi, tyf, mqt, aU, b3, bI, b2, bl, bG, cu, da, nm, seval]
 refine ktree (args0 := [.agg (cGBk ah), .lit (.int .i64 aJ)]) (by first | (simp only [nrm, aB, @bP] <;> rfl) | rfl) (by simp only [tre, aO, mqr, Bool.and_self]) (E8 _ _ _ gN) ?_
 refine bF (fun tm => tm 1 = .sl (aa eI ae) (List.length ae) false ∧ tm 2 = .lit (.int .i64 aJ) ∧ tm 3 = .ptr 0 0 ∧ tm 6 = .ptr 1 0 ∧ tm 17 = .lit (.bool false) ∧ tm 20 = .lit (.bool E7) ∧ True) (by refine ⟨b3, bI, b2, bl, ?_, ?_, trivial⟩ <;> first | (simp only [ua, bm, aU, b3, bI, b2, bl, bG, cu, da, nm, seval] <;> rfl) | rfl) ?_
 rintro tm ⟨bp, bz, bw, aX, ck, bX, _⟩
 cases eh : (E7)
 ·simp only [eh, hs] at h
  try simp only [vz, mq, mqm, vsi, tyf, mqt, aU, da, bp, bz, bw, aX, ck, bX, eh, nm, seval]
  refine bT (x := (.tup [.agg ([.lit (.int .i64 0)] ++ [.lit (.int .i64 0)]), .lit (.int .i64 2)])) (by first | (simp only [Tryz.results23, resV, resL, resV1, bU, bV, uw, cr, tyf, mqt, aU, da, bp, bz, bw, aX, ck, bX, eh, nm, seval] <;> rfl) | rfl) ?_
  obtain rfl := kF _ h
  refine fh ?_ ?_
  ·simp only [tre, aO, mqr, Bool.and_self]
  ·first | (simp only [outV, uw, fv, cr, tyf, mqt, nrm, aB, aU, da, bp, bz, bw, aX, ck, bX, eh, nm, seval] <;> rfl) | rfl
 simp only [eh, hs] at h
 try simp only [vz, mq, mqm, vsi, tyf, mqt, aU, da, bp, bz, bw, aX, ck, bX, eh, nm, seval]
 refine kopen ?_
 rw [sm]
 refine an.run mixed Tryz.call69 Tryz.func69 rfl (by simp [Tryz.ntmps69]; kernel_rfl) ?_
 try simp only [vz, mq, mqm, vsi, tyf, mqt, aU, da, eh, nm, seval]
 refine bT (x := (.agg ((cGBk ah) ++ [.sl (aa eI ae) (List.length ae) false] ++ [.mp 29]))) (by first | (simp only [Tryz.results69, resV, resL, resV1, bU, bV, uw, cr, tyf, mqt, aU, da, eh, nm, seval] <;> rfl) | rfl) ?_
 obtain ⟨tY, HU, h⟩ := optI h kN
 try simp only [hs] at h
 simp only [vz, mq, mqm, vsi, tyf, mqt, aU, da, eh, bp, bz, bw, aX, ck, bX, nm, seval]
 refine kupd (VUpd.at (β := 29) (y := (fun _ => .agg (aP tY.1))) (Et _ _ _ _ _ HU) (by omega) (by first | rfl | assumption | (simp only [bc, bf, nm, seval] <;> rfl)) (by first | rfl | (simp only [nrm, aB, @bP, @dA] <;> rfl)) (dQ (fun _ => rfl) _)) ?_
 refine ec (fun tm => tm 6 = .ptr 1 0 ∧ tm 28 = .agg (aP tY.1) ∧ True) (by refine ⟨aX, ?_, trivial⟩ <;> first | (simp only [ua, bm, aU, da, eh, bp, bz, bw, aX, ck, bX, nm, seval] <;> rfl) | rfl) ?_
 rintro tm ⟨gv, j5, _⟩
 try simp only [vz, mq, mqm, vsi, tyf, mqt, aU, da, eh, gv, j5, nm, seval]
 refine bT (x := (.tup [.agg (aP tY.1), .lit (.int .i64 0)])) (by first | (simp only [Tryz.results23, resV, resL, resV1, bU, bV, uw, cr, tyf, mqt, aU, da, eh, gv, j5, nm, seval] <;> rfl) | rfl) ?_
 obtain rfl := kF _ h
 refine fh ?_ ?_
 ·simp only [tre, aO, mqr, Bool.and_self]
 ·first | (simp only [outV, uw, fv, cr, tyf, mqt, nrm, aB, aU, da, eh, gv, j5, nm, seval] <;> rfl) | rfl
def oW (xb : GBk) (xp : List Int) (aQ : Int) (l0 : List (GBe × Int)) : Option ((Int) × List (GBe × Int)) := Option.bind (ni xb xp aQ l0) (fun r1 => Option.bind (getI xb.Boards aQ) (fun x2 => cond (decide (r1.1.Low > x2)) (some (3, r1.2)) (cond (decide (r1.1.High > x2)) (some (2, r1.2)) (some (1, r1.2)))))
theorem E9 (xb : GBk) (xp : List Int) (aQ : Int) (l0 : List (GBe × Int)) (R : (Int) × List (GBe × Int)) (h : oW xb xp aQ l0 = some R) : VUpd Tryz.prog G0 76 (fun β => [.agg [.lit (.int .i64 xb.Apprentices), .sl (aa eI xb.Boards) (List.length xb.Boards) false, .sl (aa cGBs xb.Strokes) (List.length xb.Strokes) false, .sl (aa eI xp) (List.length xp) false, .mp β], .lit (.int .i64 aQ)]) (encM aN bM l0) (encM aN bM R.2) (fun _ => .lit (.int .i64 R.1)) := by
 intro ba nx hlt
 have aS := gb (β := ba) (nx := nx) hlt
 refine an.run mixed Tryz.call76 Tryz.func76 rfl (by simp [Tryz.ntmps76]; kernel_rfl) ?_
 obtain ⟨KF, h, kF, kN⟩ := cy h
 simp only [oW] at h
 simp only [vz, mq, mqm, vsi, tyf, mqt, aS, nm, seval]
 refine nt (fun tm => tm 1 = .lit (.int .i64 aQ) ∧ tm 2 = .ptr nx 0 ∧ True) (by refine ⟨?_, ?_, trivial⟩ <;> first | (simp only [ua, bm, aS, nm, seval] <;> rfl) | rfl) ?_
 rintro tm ⟨e3, e4, _⟩
 obtain ⟨r5, o6, h⟩ := optI h kN
 try simp only [hs] at h
 simp only [vz, mq, mqm, vsi, tyf, mqt, aS, e3, e4, nm, seval]
 refine dkupd (VUpd.at (β := ba) (y := (fun _ => .agg (aP r5.1))) (Et _ _ _ _ _ o6) (by omega) (by first | rfl | assumption | (simp only [bc, bf, aS, nm, seval] <;> rfl)) (by first | rfl | (simp only [nrm, aB, @bP, @dA] <;> rfl)) (dQ (fun _ => rfl) _)) ?_
 refine ec (fun tm => tm 1 = .lit (.int .i64 aQ) ∧ tm 2 = .ptr nx 0 ∧ tm 9 = .agg (aP r5.1) ∧ True) (by refine ⟨e3, e4, ?_, trivial⟩ <;> first | (simp only [ua, bm, aS, e3, e4, nm, seval] <;> rfl) | rfl) ?_
 rintro tm ⟨e7, e8, e9, _⟩
 obtain ⟨lK, iD, h⟩ := optI h kN
 try simp only [hs] at h
 simp only [vz, mq, mqm, vsi, tyf, mqt, aS, e7, e8, e9, (aE iD), nm, seval]
 refine nv ⟨?_, ?_⟩
 ·simp only [nw, ny, i5, nz, and_true, true_and]
  repeat' (first | exact trivial | refine And.intro ?_ ?_ | rw [i5] | rw [n0] | exact Or.inl (by decide +kernel) | exact Or.inl (by dsimp only; decide +kernel) | (refine Or.inr ⟨?_, ?_⟩ <;> simp; done) | (refine Or.inr ⟨?_, ?_⟩ <;> simp <;> omega) | (refine Or.inr ⟨?_, ?_⟩ <;> simp [VEff.wr] <;> omega))
 cases aU : (decide (r5.1.Low > lK))
 ·simp only [aU, hs] at h
  cases fx : (decide (r5.1.High > lK))
  ·simp only [fx, hs] at h
   try simp only [vz, mq, mqm, vsi, tyf, mqt, aS, e7, e8, e9, (aE iD), aU, fx, nm, seval]
   refine bT (x := (.lit (.int .i64 1))) (by first | (simp only [Tryz.results76, resV, resL, resV1, bU, bV, uw, cr, tyf, mqt, aS, (aE iD), aU, fx, nm, seval] <;> rfl) | rfl) ?_
   obtain rfl := kF _ h
   refine ⟨(by first | rfl | assumption | (simp only [bc, bf, aS, nm, seval] <;> rfl)), ?_⟩
   exact sq_of (gn (by first | (simp only [tre, aO, mqr, Bool.and_self]; done) | rfl) rfl)
  simp only [fx, hs] at h
  try simp only [vz, mq, mqm, vsi, tyf, mqt, aS, e7, e8, e9, (aE iD), aU, fx, nm, seval]
  refine bT (x := (.lit (.int .i64 2))) (by first | (simp only [Tryz.results76, resV, resL, resV1, bU, bV, uw, cr, tyf, mqt, aS, (aE iD), aU, fx, nm, seval] <;> rfl) | rfl) ?_
  obtain rfl := kF _ h
  refine ⟨(by first | rfl | assumption | (simp only [bc, bf, aS, nm, seval] <;> rfl)), ?_⟩
  exact sq_of (gn (by first | (simp only [tre, aO, mqr, Bool.and_self]; done) | rfl) rfl)
 simp only [aU, hs] at h
 try simp only [vz, mq, mqm, vsi, tyf, mqt, aS, e7, e8, e9, (aE iD), aU, nm, seval]
 refine bT (x := (.lit (.int .i64 3))) (by first | (simp only [Tryz.results76, resV, resL, resV1, bU, bV, uw, cr, tyf, mqt, aS, (aE iD), aU, nm, seval] <;> rfl) | rfl) ?_
 obtain rfl := kF _ h
 refine ⟨(by first | rfl | assumption | (simp only [bc, bf, aS, nm, seval] <;> rfl)), ?_⟩
 exact sq_of (gn (by first | (simp only [tre, aO, mqr, Bool.and_self]; done) | rfl) rfl)
end Go.V
end
