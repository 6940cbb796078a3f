/- Part of a proof. -/
import Derived.Test.YtlkognggeadanaaGreatDoorDbo
import Derived.Test.YtlkognggeadanaaGreatDoorDbn
set_option linter.all false
set_option maxRecDepth 4000
set_option maxHeartbeats 40000000
section
namespace Go.V
open Go Go.Proofs IntKind
def pb (ad : GLs) (bd : List Grl) (ah : Int) : List Grl → Int → (List Int) → Int → Option (LOut (List Int) ((List Int) × Int))
 | [], jI, gO, dz => some (.go (gO, dz))
 | e0 :: p0, jI, gO, dz => cond (decide (jI > 0)) (Option.bind (getI bd (i64.wrap (jI - 1))) (fun x1 => Option.bind (Ck ad x1 e0) (fun r2 => cond (av 8 (List.length (gO ++ [i64.wrap ((i64.wrap (dz + r2.Low)) + (i64.wrap (Int.tdiv (i64.wrap ((i64.wrap (r2.High - r2.Low)) * ah)) 10)))]))) (Option.bind (zb ad e0) (fun r3 => pb ad bd ah p0 (jI + 1) (gO ++ [i64.wrap ((i64.wrap (dz + r2.Low)) + (i64.wrap (Int.tdiv (i64.wrap ((i64.wrap (r2.High - r2.Low)) * ah)) 10)))]) (i64.wrap ((i64.wrap ((i64.wrap (dz + r2.Low)) + (i64.wrap (Int.tdiv (i64.wrap ((i64.wrap (r2.High - r2.Low)) * ah)) 10)))) + r3)))) none))) (cond (av 8 (List.length (gO ++ [dz]))) (Option.bind (zb ad e0) (fun r4 => pb ad bd ah p0 (jI + 1) (gO ++ [dz]) (i64.wrap (dz + r4)))) none)
def Cl (ad : GLs) (bd : List Grl) (ah : Int) : Option (List Int) := cond (lenOk bd) (lbind (pb ad bd ah bd 0 ([] : List Int) 0) (fun r6 => some r6) (fun c5 => cond (av 8 (List.length (c5.1 ++ [c5.2]))) (some (c5.1 ++ [c5.2])) none) (fun _ _ => none)) none
theorem SX (ad : GLs) (bd : List Grl) (ah : Int) (R : List Int) (h : Cl ad bd ah = some R) : ag Tryz.prog G0 80 [.agg (cGLs ad), .sl (aa cGrl bd) (List.length bd) false, .lit (.int .i64 ah)] (.tree (.sl (aa eI R) (List.length R) false)) := by
 refine ag.runR mixed Tryz.call80 Tryz.func80 rfl (by simp [Tryz.ntmps80]; kernel_rfl) ?_
 obtain ⟨KF, h, kF, kN⟩ := eC h
 simp only [Cl] at h
 cases g8 : (lenOk bd)
 ·simp only [g8, hs] at h
  exact absurd h kN
 simp only [g8, hs] at h
 simp only [vz, qr, tyf, g8, nm, seval]
 obtain ⟨K7, h, zc, F2, Wr, nd⟩ := gp h kN
 obtain ⟨f7, JA, h⟩ := call4 h
 obtain ⟨I7, qY⟩ : ∃ I : Nat → St → Prop, I = (fun m st => ∃ (p7 : List Grl) (dA : Int) (cD : List Int) (bl : Int) (tU : VV), m = List.length p7 ∧ 0 ≤ dA ∧ List.drop (Int.toNat dA) bd = p7 ∧ st.df = [] ∧ 5 ≤ st.nx ∧ st.H 0 = some (.cells (some 28) (cGLs ad)) ∧ st.tm 1 = .sl (aa cGrl bd) (List.length bd) false ∧ st.tm 2 = .lit (.int .i64 ah) ∧ st.tm 3 = .ptr 0 0 ∧ st.tm 7 = tU ∧ st.tm 8 = .lit (.int .i64 bl) ∧ st.tm 9 = .lit (.int .i64 dA) ∧ ((∃ (β : Nat) (el : Option TypeId), tU = .ref β 0 (List.length cD) 1 (List.length cD) ∧ β < st.nx ∧ β ≠ 0 ∧ st.H β = some (.cells el (aa eI cD))) ∨ (tU = .lit (.slice none 0 0) ∧ cD = [])) ∧ K7 (f7 p7 dA cD bl)) := ⟨_, rfl⟩
 refine loopK mixed (by kernel_rfl) I7 (List.length bd) (by rw [qY]; refine ⟨bd, 0, ([] : List Int), 0, .lit (.slice none 0 0), rfl, qZe _, rfl, rfl, (show 5 ≤ 5 by omega), ?_, ?_, ?_, ?_, ?_, ?_, ?_, Or.inr ⟨rfl, rfl⟩, h⟩ <;> first | (simp only [ua, nm, seval] <;> rfl) | rfl) ?_
 rintro m ⟨tm, H, ik, df⟩ hinv
 rw [qY] at hinv
 obtain ⟨p7, dA, cD, bl, tU, rfl, jm, lH, hdf, JB, H9, aW, bc, bu, bj, bn, bE, vt, h⟩ := hinv
 simp only at hdf JB H9 aW bc bu bj bn bE vt
 have dr := gq (m := 5) (b := ik) (by omega)
 subst hdf JA
 rcases vt with ⟨Cm, nf, rfl, sd, wQ, bC⟩ | ⟨rfl, rfl⟩
 ·have jH := qa sd
  have ng := ne_f wQ
  cases p7 with
  | nil =>
   have cB : (decide (dA < (List.length bd : Int))) = false := fy jm lH
   simp only [pb, hs, reduceCtorEq] at h
   replace h := F2 _ h
   try dsimp only at h
   try simp only [hs] at h
   cases tV : (av 8 (List.length (cD ++ [bl])))
   ·simp only [tV, hs] at h
    exact absurd h kN
   simp only [tV, hs] at h
   simp only [vz, qr, tyf, g8, dr, aW, bc, bu, bj, bn, bE, H9, jH, bC, ng, cB, tV, nm, seval]
   refine k_app (w := 1) (enc := eI) (xs := cD) (ys := ([bl])) (el := nf) (gg := (some 3)) (fun _ => rfl) jG ji Tryz.underlying22 (by first | rfl | assumption | (simp only [bw, bx, fw, dr, H9, jH, bC, ng, nm, seval] <;> rfl) | (simp only [bw, bx, dj, d6, dp, dq, tyf, g8, dr, aW, bc, bu, bj, bn, bE, H9, jH, bC, ng, cB, tV, nm, seval]; done)) (by first | rfl | assumption | (simp only [bw, bx, fw, dr, H9, jH, bC, ng, nm, seval] <;> rfl) | (simp only [bw, bx, dj, d6, dp, dq, tyf, g8, dr, aW, bc, bu, bj, bn, bE, H9, jH, bC, ng, cB, tV, nm, seval]; done)) (Nat.zero_lt_succ _) tV ?_
   try simp only [vz, qr, tyf, g8, dr, aW, bc, bu, bj, bn, bE, H9, jH, bC, ng, cB, tV, nm, seval]
   refine eh (x := (.ref (ik + 7) 0 (List.length (cD ++ [bl])) 1 (List.length (cD ++ [bl])))) (by first | (simp only [Tryz.results80, resV, resL, aR, ei, ej, uw, cr, tyf, g8, dr, H9, jH, bC, ng, cB, tV, nm, seval] <;> rfl) | rfl) ?_
   obtain rfl := kF _ h
   refine eD ?_ ?_
   ·simp only [tre, aG, Bool.and_self]
   ·first | (simp only [outV, uw, ep, cr, tyf, nrm, aE, g8, dr, aW, bc, bu, bj, bn, bE, H9, jH, bC, ng, cB, tV, nm, seval] <;> rfl) | rfl
  | cons e7 p7 =>
   have nK : (decide (dA < (List.length bd : Int))) = true := fz jm lH
   have jA := eg jm lH
   have tW := f2 jm lH g8
   simp only [pb, hs, reduceCtorEq] at h
   cases jJ : (decide (dA > 0))
   ·simp only [jJ, hs] at h
    have qf := And.intro g8 (And.intro dr (And.intro H9 (And.intro jH (And.intro bC (And.intro ng (And.intro nK (And.intro tW jJ)))))))
    cases tX : (av 8 (List.length (cD ++ [bl])))
    ·simp only [tX, hs] at h
     exact absurd h nd
    simp only [tX, hs] at h
    simp only [vz, qr, tyf, qf, aW, bc, bu, bj, bn, bE, (bG jA), tX, nm, seval]
    refine k_app (w := 1) (enc := eI) (xs := cD) (ys := ([bl])) (el := nf) (gg := (some 3)) (fun _ => rfl) jG ji Tryz.underlying22 (by first | rfl | assumption | (simp only [bw, bx, fw, qf, nm, seval] <;> rfl) | (simp only [bw, bx, dj, d6, dp, dq, tyf, qf, aW, bc, bu, bj, bn, bE, (bG jA), tX, nm, seval]; done)) (by first | rfl | assumption | (simp only [bw, bx, fw, qf, nm, seval] <;> rfl) | (simp only [bw, bx, dj, d6, dp, dq, tyf, qf, aW, bc, bu, bj, bn, bE, (bG jA), tX, nm, seval]; done)) (Nat.zero_lt_succ _) tX ?_
    simp only [vz, qr, tyf, qf, aW, bc, bu, bj, bn, bE, (bG jA), tX, nm, seval]
    refine km (fun tm => tm 1 = .sl (aa cGrl bd) (List.length bd) false ∧ tm 2 = .lit (.int .i64 ah) ∧ tm 3 = .ptr 0 0 ∧ tm 7 = .ref (ik + 9) 0 (List.length (cD ++ [bl])) 1 (List.length (cD ++ [bl])) ∧ tm 8 = .lit (.int .i64 bl) ∧ tm 9 = .lit (.int .i64 dA) ∧ True) (by refine ⟨aW, bc, bu, ?_, bn, bE, trivial⟩ <;> first | (simp only [ua, qf, aW, bc, bu, bj, bn, bE, nm, seval] <;> rfl) | rfl) ?_
    rintro tm ⟨dJ, eW, bI, mF, oZ, fA, _⟩
    obtain ⟨vu, Cn, h⟩ := optI h nd
    try simp only [hs] at h
    simp only [vz, qr, tyf, qf, (bG jA), tX, dJ, eW, bI, mF, oZ, fA, nm, seval]
    refine dktA (F3 _ _ _ Cn) ?_
    refine b5 (fun tm => tm 1 = .sl (aa cGrl bd) (List.length bd) false ∧ tm 2 = .lit (.int .i64 ah) ∧ tm 3 = .ptr 0 0 ∧ tm 7 = .ref (ik + 9) 0 (List.length (cD ++ [bl])) 1 (List.length (cD ++ [bl])) ∧ tm 9 = .lit (.int .i64 dA) ∧ tm 47 = .lit (.int .i64 bl) ∧ tm 53 = .lit (.int .i64 vu) ∧ True) (by refine ⟨dJ, eW, bI, mF, fA, ?_, ?_, trivial⟩ <;> first | (simp only [ua, qf, dJ, eW, bI, mF, oZ, fA, nm, seval] <;> rfl) | rfl) ?_
    rintro tm ⟨bM, bW, bH, bX, bF, bN, b9, _⟩
    simp only [vz, qr, tyf, qf, (bG jA), tX, bM, bW, bH, bX, bF, bN, b9, nm, seval]
    exact ⟨List.length p7, qZc _, by rw [qY]; refine ⟨p7, dA + 1, (cD ++ [bl]), i64.wrap (bl + vu), .ref (ik + 9) 0 (List.length (cD ++ [bl])) 1 (List.length (cD ++ [bl])), rfl, Int.le_trans jm (Int.le_add_one (qZe _)), bK jm lH, rfl, (show 5 ≤ ik + 23 by omega), ?_, bM, bW, bH, ?_, ?_, ?_, Or.inl ⟨ik + 9, (sameEl nf 3), rfl, (by first | omega | (simp only [nm, seval]; done) | (simp only [nm, seval]; omega)), (by first | omega | (intro hh; simp only [qf, reduceCtorEq] at hh)), ?_⟩, (by first | exact h | (simp only [qf]; exact h))⟩ <;> first | (simp only [ua, qf, bM, bW, bH, bX, bF, bN, b9, nm, seval] <;> rfl) | rfl⟩
   simp only [jJ, hs] at h
   have mI := And.intro g8 (And.intro dr (And.intro H9 (And.intro jH (And.intro bC (And.intro ng (And.intro nK (And.intro tW jJ)))))))
   simp only [vz, qr, tyf, mI, aW, bc, bu, bj, bn, bE, (bG jA), nm, seval]
   refine vl (fun tm => tm 1 = .sl (aa cGrl bd) (List.length bd) false ∧ tm 2 = .lit (.int .i64 ah) ∧ tm 3 = .ptr 0 0 ∧ tm 7 = .ref Cm 0 (List.length cD) 1 (List.length cD) ∧ tm 8 = .lit (.int .i64 bl) ∧ tm 9 = .lit (.int .i64 dA) ∧ True) (by refine ⟨aW, bc, bu, bj, bn, bE, trivial⟩ <;> first | (simp only [ua, mI, aW, bc, bu, bj, bn, bE, nm, seval] <;> rfl) | rfl) ?_
   rintro tm ⟨ca, fB, fC, gM, fD, fv, _⟩
   obtain ⟨x50, t7, h⟩ := optI h nd
   try simp only [hs] at h
   obtain ⟨eT, tY, h⟩ := optI h nd
   try simp only [hs] at h
   simp only [vz, qr, tyf, mI, (bG jA), ca, fB, fC, gM, fD, fv, (bG t7), nm, seval]
   refine dktA (SY _ _ _ _ tY) ?_
   refine b5 (fun tm => tm 1 = .sl (aa cGrl bd) (List.length bd) false ∧ tm 2 = .lit (.int .i64 ah) ∧ tm 3 = .ptr 0 0 ∧ tm 7 = .ref Cm 0 (List.length cD) 1 (List.length cD) ∧ tm 8 = .lit (.int .i64 bl) ∧ tm 9 = .lit (.int .i64 dA) ∧ tm 29 = .agg (cGSpan eT) ∧ True) (by refine ⟨ca, fB, fC, gM, fD, fv, ?_, trivial⟩ <;> first | (simp only [ua, mI, ca, fB, fC, gM, fD, fv, nm, seval] <;> rfl) | rfl) ?_
   rintro tm ⟨cE, cF, cC, cG, hJ, hT, kn, _⟩
   simp only [vz, qr, tyf, mI, (bG jA), (bG t7), cE, cF, cC, cG, hJ, hT, kn, nm, seval]
   refine vm ⟨?_, ?_⟩
   ·simp only [vn, vo, nH, vp, and_true, true_and]
    repeat' (first | exact trivial | refine And.intro ?_ ?_ | rw [nH] | rw [vq] | exact Or.inl (by decide +kernel) | exact Or.inl (by dsimp only; decide +kernel) | (refine Or.inr ⟨?_, ?_⟩ <;> simp; done) | (refine Or.inr ⟨?_, ?_⟩ <;> simp <;> omega) | (refine Or.inr ⟨?_, ?_⟩ <;> simp [VEff.wr] <;> omega))
   cases nL : (av 8 (List.length (cD ++ [i64.wrap ((i64.wrap (bl + eT.Low)) + (i64.wrap (Int.tdiv (i64.wrap ((i64.wrap (eT.High - eT.Low)) * ah)) 10)))])))
   ·simp only [nL, hs] at h
    exact absurd h nd
   simp only [nL, hs] at h
   simp only [vz, qr, tyf, mI, (bG jA), (bG t7), cE, cF, cC, cG, hJ, hT, kn, nL, nm, seval]
   refine k_app (w := 1) (enc := eI) (xs := cD) (ys := ([i64.wrap ((i64.wrap (bl + eT.Low)) + (i64.wrap (Int.tdiv (i64.wrap ((i64.wrap (eT.High - eT.Low)) * ah)) 10)))])) (el := nf) (gg := (some 3)) (fun _ => rfl) jG ji Tryz.underlying22 (by first | rfl | assumption | (simp only [bw, bx, fw, mI, nm, seval] <;> rfl) | (simp only [bw, bx, dj, d6, dp, dq, tyf, mI, (bG jA), (bG t7), cE, cF, cC, cG, hJ, hT, kn, nL, nm, seval]; done)) (by first | rfl | assumption | (simp only [bw, bx, fw, mI, nm, seval] <;> rfl) | (simp only [bw, bx, dj, d6, dp, dq, tyf, mI, (bG jA), (bG t7), cE, cF, cC, cG, hJ, hT, kn, nL, nm, seval]; done)) (Nat.zero_lt_succ _) nL ?_
   simp only [vz, qr, tyf, mI, (bG jA), (bG t7), cE, cF, cC, cG, hJ, hT, kn, nL, nm, seval]
   refine km (fun tm => tm 1 = .sl (aa cGrl bd) (List.length bd) false ∧ tm 2 = .lit (.int .i64 ah) ∧ tm 3 = .ptr 0 0 ∧ tm 7 = .ref (ik + 36) 0 (List.length (cD ++ [i64.wrap ((i64.wrap (bl + eT.Low)) + (i64.wrap (Int.tdiv (i64.wrap ((i64.wrap (eT.High - eT.Low)) * ah)) 10)))])) 1 (List.length (cD ++ [i64.wrap ((i64.wrap (bl + eT.Low)) + (i64.wrap (Int.tdiv (i64.wrap ((i64.wrap (eT.High - eT.Low)) * ah)) 10)))])) ∧ tm 8 = .lit (.int .i64 (i64.wrap ((i64.wrap (bl + eT.Low)) + (i64.wrap (Int.tdiv (i64.wrap ((i64.wrap (eT.High - eT.Low)) * ah)) 10))))) ∧ tm 9 = .lit (.int .i64 dA) ∧ True) (by refine ⟨cE, cF, cC, ?_, ?_, hT, trivial⟩ <;> first | (simp only [ua, mI, cE, cF, cC, cG, hJ, hT, kn, nm, seval] <;> rfl) | rfl) ?_
   rintro tm ⟨gv, gG, ij, kS, lG, je, _⟩
   obtain ⟨vv, Co, h⟩ := optI h nd
   try simp only [hs] at h
   simp only [vz, qr, tyf, mI, (bG jA), (bG t7), nL, gv, gG, ij, kS, lG, je, nm, seval]
   refine dktA (F3 _ _ _ Co) ?_
   refine b5 (fun tm => tm 1 = .sl (aa cGrl bd) (List.length bd) false ∧ tm 2 = .lit (.int .i64 ah) ∧ tm 3 = .ptr 0 0 ∧ tm 7 = .ref (ik + 36) 0 (List.length (cD ++ [i64.wrap ((i64.wrap (bl + eT.Low)) + (i64.wrap (Int.tdiv (i64.wrap ((i64.wrap (eT.High - eT.Low)) * ah)) 10)))])) 1 (List.length (cD ++ [i64.wrap ((i64.wrap (bl + eT.Low)) + (i64.wrap (Int.tdiv (i64.wrap ((i64.wrap (eT.High - eT.Low)) * ah)) 10)))])) ∧ tm 9 = .lit (.int .i64 dA) ∧ tm 47 = .lit (.int .i64 (i64.wrap ((i64.wrap (bl + eT.Low)) + (i64.wrap (Int.tdiv (i64.wrap ((i64.wrap (eT.High - eT.Low)) * ah)) 10))))) ∧ tm 53 = .lit (.int .i64 vv) ∧ True) (by refine ⟨gv, gG, ij, kS, je, ?_, ?_, trivial⟩ <;> first | (simp only [ua, mI, gv, gG, ij, kS, lG, je, nm, seval] <;> rfl) | rfl) ?_
   rintro tm ⟨eZ, jB, jn, ld, j7, j8, gh, _⟩
   simp only [vz, qr, tyf, mI, (bG jA), (bG t7), nL, eZ, jB, jn, ld, j7, j8, gh, nm, seval]
   exact ⟨List.length p7, qZc _, by rw [qY]; refine ⟨p7, dA + 1, (cD ++ [i64.wrap ((i64.wrap (bl + eT.Low)) + (i64.wrap (Int.tdiv (i64.wrap ((i64.wrap (eT.High - eT.Low)) * ah)) 10)))]), i64.wrap ((i64.wrap ((i64.wrap (bl + eT.Low)) + (i64.wrap (Int.tdiv (i64.wrap ((i64.wrap (eT.High - eT.Low)) * ah)) 10)))) + vv), .ref (ik + 36) 0 (List.length (cD ++ [i64.wrap ((i64.wrap (bl + eT.Low)) + (i64.wrap (Int.tdiv (i64.wrap ((i64.wrap (eT.High - eT.Low)) * ah)) 10)))])) 1 (List.length (cD ++ [i64.wrap ((i64.wrap (bl + eT.Low)) + (i64.wrap (Int.tdiv (i64.wrap ((i64.wrap (eT.High - eT.Low)) * ah)) 10)))])), rfl, Int.le_trans jm (Int.le_add_one (qZe _)), bK jm lH, rfl, (show 5 ≤ ik + 50 by omega), ?_, eZ, jB, jn, ?_, ?_, ?_, Or.inl ⟨ik + 36, (sameEl nf 3), rfl, (by first | omega | (simp only [nm, seval]; done) | (simp only [nm, seval]; omega)), (by first | omega | (intro hh; simp only [mI, reduceCtorEq] at hh)), ?_⟩, (by first | exact h | (simp only [mI]; exact h))⟩ <;> first | (simp only [ua, mI, eZ, jB, jn, ld, j7, j8, gh, nm, seval] <;> rfl) | rfl⟩
 ·cases p7 with
  | nil =>
   have qZ : (decide (dA < (List.length bd : Int))) = false := fy jm lH
   simp only [pb, hs, reduceCtorEq] at h
   replace h := F2 _ h
   try dsimp only at h
   try simp only [hs] at h
   cases vw : (av 8 (List.length (([] : List Int) ++ [bl])))
   ·simp only [vw, hs] at h
    exact absurd h kN
   simp only [vw, hs] at h
   simp only [vz, qr, tyf, g8, dr, aW, bc, bu, bj, bn, bE, H9, qZ, vw, nm, seval]
   refine nc (w := 1) (enc := eI) (ys := ([bl])) (gg := (some 3)) (fun _ => rfl) jG ji Tryz.underlying22 (by first | rfl | assumption | (simp only [bw, bx, fw, dr, H9, nm, seval] <;> rfl) | (simp only [bw, bx, dj, d6, dp, dq, tyf, g8, dr, aW, bc, bu, bj, bn, bE, H9, qZ, vw, nm, seval]; done)) (Nat.zero_lt_succ _) vw ?_
   try simp only [vz, qr, tyf, g8, dr, aW, bc, bu, bj, bn, bE, H9, qZ, vw, nm, seval]
   refine eh (x := (.ref (ik + 7) 0 (List.length (([] : List Int) ++ [bl])) 1 (List.length (([] : List Int) ++ [bl])))) (by first | (simp only [Tryz.results80, resV, resL, aR, ei, ej, uw, cr, tyf, g8, dr, H9, qZ, vw, nm, seval] <;> rfl) | rfl) ?_
   obtain rfl := kF _ h
   refine eD ?_ ?_
   ·simp only [tre, aG, Bool.and_self]
   ·first | (simp only [outV, uw, ep, cr, tyf, nrm, aE, g8, dr, aW, bc, bu, bj, bn, bE, H9, qZ, vw, nm, seval] <;> rfl) | rfl
  | cons e7 p7 =>
   have lI : (decide (dA < (List.length bd : Int))) = true := fz jm lH
   have qg := eg jm lH
   have oq := f2 jm lH g8
   simp only [pb, hs, reduceCtorEq] at h
   cases nh : (decide (dA > 0))
   ·simp only [nh, hs] at h
    cases nJ : (av 8 (List.length (([] : List Int) ++ [bl])))
    ·simp only [nJ, hs] at h
     exact absurd h nd
    simp only [nJ, hs] at h
    simp only [vz, qr, tyf, g8, dr, aW, bc, bu, bj, bn, bE, H9, lI, (bG qg), oq, nh, nJ, nm, seval]
    refine nc (w := 1) (enc := eI) (ys := ([bl])) (gg := (some 3)) (fun _ => rfl) jG ji Tryz.underlying22 (by first | rfl | assumption | (simp only [bw, bx, fw, dr, H9, nm, seval] <;> rfl) | (simp only [bw, bx, dj, d6, dp, dq, tyf, g8, dr, aW, bc, bu, bj, bn, bE, H9, lI, (bG qg), oq, nh, nJ, nm, seval]; done)) (Nat.zero_lt_succ _) nJ ?_
    simp only [vz, qr, tyf, g8, dr, aW, bc, bu, bj, bn, bE, H9, lI, (bG qg), oq, nh, nJ, nm, seval]
    refine km (fun tm => tm 1 = .sl (aa cGrl bd) (List.length bd) false ∧ tm 2 = .lit (.int .i64 ah) ∧ tm 3 = .ptr 0 0 ∧ tm 7 = .ref (ik + 9) 0 (List.length (([] : List Int) ++ [bl])) 1 (List.length (([] : List Int) ++ [bl])) ∧ tm 8 = .lit (.int .i64 bl) ∧ tm 9 = .lit (.int .i64 dA) ∧ True) (by refine ⟨aW, bc, bu, ?_, bn, bE, trivial⟩ <;> first | (simp only [ua, dr, aW, bc, bu, bj, bn, bE, H9, lI, oq, nh, nm, seval] <;> rfl) | rfl) ?_
    rintro tm ⟨dw, cI, cw, cK, gH, qh, _⟩
    have zd := And.intro g8 (And.intro dr (And.intro H9 (And.intro lI (And.intro oq (And.intro nh nJ)))))
    obtain ⟨SZ, Cp, h⟩ := optI h nd
    try simp only [hs] at h
    simp only [vz, qr, tyf, zd, (bG qg), dw, cI, cw, cK, gH, qh, nm, seval]
    refine dktA (F3 _ _ _ Cp) ?_
    refine b5 (fun tm => tm 1 = .sl (aa cGrl bd) (List.length bd) false ∧ tm 2 = .lit (.int .i64 ah) ∧ tm 3 = .ptr 0 0 ∧ tm 7 = .ref (ik + 9) 0 (List.length (([] : List Int) ++ [bl])) 1 (List.length (([] : List Int) ++ [bl])) ∧ tm 9 = .lit (.int .i64 dA) ∧ tm 47 = .lit (.int .i64 bl) ∧ tm 53 = .lit (.int .i64 SZ) ∧ True) (by refine ⟨dw, cI, cw, cK, qh, ?_, ?_, trivial⟩ <;> first | (simp only [ua, zd, dw, cI, cw, cK, gH, qh, nm, seval] <;> rfl) | rfl) ?_
    rintro tm ⟨JC, JD, vx, ze, zf, wR, wS, _⟩
    simp only [vz, qr, tyf, zd, (bG qg), JC, JD, vx, ze, zf, wR, wS, nm, seval]
    exact ⟨List.length p7, qZc _, by rw [qY]; refine ⟨p7, dA + 1, (([] : List Int) ++ [bl]), i64.wrap (bl + SZ), .ref (ik + 9) 0 (List.length (([] : List Int) ++ [bl])) 1 (List.length (([] : List Int) ++ [bl])), rfl, Int.le_trans jm (Int.le_add_one (qZe _)), bK jm lH, rfl, (show 5 ≤ ik + 23 by omega), ?_, JC, JD, vx, ?_, ?_, ?_, Or.inl ⟨ik + 9, (some 3), rfl, (by first | omega | (simp only [nm, seval]; done) | (simp only [nm, seval]; omega)), (by first | omega | (intro hh; simp only [zd, reduceCtorEq] at hh)), ?_⟩, (by first | exact h | (simp only [zd]; exact h))⟩ <;> first | (simp only [ua, zd, JC, JD, vx, ze, zf, wR, wS, nm, seval] <;> rfl) | rfl⟩
   simp only [nh, hs] at h
   simp only [vz, qr, tyf, g8, dr, aW, bc, bu, bj, bn, bE, H9, lI, (bG qg), oq, nh, nm, seval]
   refine vl (fun tm => tm 1 = .sl (aa cGrl bd) (List.length bd) false ∧ tm 2 = .lit (.int .i64 ah) ∧ tm 3 = .ptr 0 0 ∧ tm 7 = .lit (.slice none 0 0) ∧ tm 8 = .lit (.int .i64 bl) ∧ tm 9 = .lit (.int .i64 dA) ∧ True) (by refine ⟨aW, bc, bu, bj, bn, bE, trivial⟩ <;> first | (simp only [ua, dr, aW, bc, bu, bj, bn, bE, H9, lI, oq, nh, nm, seval] <;> rfl) | rfl) ?_
   rintro tm ⟨ot, ou, ov, wT, wU, wV, _⟩
   obtain ⟨Ws, ow, h⟩ := optI h nd
   try simp only [hs] at h
   obtain ⟨bZ, JE, h⟩ := optI h nd
   try simp only [hs] at h
   simp only [vz, qr, tyf, g8, dr, H9, lI, (bG qg), oq, nh, ot, ou, ov, wT, wU, wV, (bG ow), nm, seval]
   refine dktA (SY _ _ _ _ JE) ?_
   refine b5 (fun tm => tm 1 = .sl (aa cGrl bd) (List.length bd) false ∧ tm 2 = .lit (.int .i64 ah) ∧ tm 3 = .ptr 0 0 ∧ tm 7 = .lit (.slice none 0 0) ∧ tm 8 = .lit (.int .i64 bl) ∧ tm 9 = .lit (.int .i64 dA) ∧ tm 29 = .agg (cGSpan bZ) ∧ True) (by refine ⟨ot, ou, ov, wT, wU, wV, ?_, trivial⟩ <;> first | (simp only [ua, dr, H9, lI, oq, nh, ot, ou, ov, wT, wU, wV, nm, seval] <;> rfl) | rfl) ?_
   rintro tm ⟨qi, qj, qk, sk, sm, ql, sn, _⟩
   simp only [vz, qr, tyf, g8, dr, H9, lI, (bG qg), oq, nh, (bG ow), qi, qj, qk, sk, sm, ql, sn, nm, seval]
   refine vm ⟨?_, ?_⟩
   ·simp only [vn, vo, nH, vp, and_true, true_and]
    repeat' (first | exact trivial | refine And.intro ?_ ?_ | rw [nH] | rw [vq] | exact Or.inl (by decide +kernel) | exact Or.inl (by dsimp only; decide +kernel) | (refine Or.inr ⟨?_, ?_⟩ <;> simp; done) | (refine Or.inr ⟨?_, ?_⟩ <;> simp <;> omega) | (refine Or.inr ⟨?_, ?_⟩ <;> simp [VEff.wr] <;> omega))
   cases oy : (av 8 (List.length (([] : List Int) ++ [i64.wrap ((i64.wrap (bl + bZ.Low)) + (i64.wrap (Int.tdiv (i64.wrap ((i64.wrap (bZ.High - bZ.Low)) * ah)) 10)))])))
   ·simp only [oy, hs] at h
    exact absurd h nd
   simp only [oy, hs] at h
   simp only [vz, qr, tyf, g8, dr, H9, lI, (bG qg), oq, nh, (bG ow), qi, qj, qk, sk, sm, ql, sn, oy, nm, seval]
   refine nc (w := 1) (enc := eI) (ys := ([i64.wrap ((i64.wrap (bl + bZ.Low)) + (i64.wrap (Int.tdiv (i64.wrap ((i64.wrap (bZ.High - bZ.Low)) * ah)) 10)))])) (gg := (some 3)) (fun _ => rfl) jG ji Tryz.underlying22 (by first | rfl | assumption | (simp only [bw, bx, fw, dr, H9, nm, seval] <;> rfl) | (simp only [bw, bx, dj, d6, dp, dq, tyf, g8, dr, H9, lI, (bG qg), oq, nh, (bG ow), qi, qj, qk, sk, sm, ql, sn, oy, nm, seval]; done)) (Nat.zero_lt_succ _) oy ?_
   simp only [vz, qr, tyf, g8, dr, H9, lI, (bG qg), oq, nh, (bG ow), qi, qj, qk, sk, sm, ql, sn, oy, nm, seval]
   refine km (fun tm => tm 1 = .sl (aa cGrl bd) (List.length bd) false ∧ tm 2 = .lit (.int .i64 ah) ∧ tm 3 = .ptr 0 0 ∧ tm 7 = .ref (ik + 36) 0 (List.length (([] : List Int) ++ [i64.wrap ((i64.wrap (bl + bZ.Low)) + (i64.wrap (Int.tdiv (i64.wrap ((i64.wrap (bZ.High - bZ.Low)) * ah)) 10)))])) 1 (List.length (([] : List Int) ++ [i64.wrap ((i64.wrap (bl + bZ.Low)) + (i64.wrap (Int.tdiv (i64.wrap ((i64.wrap (bZ.High - bZ.Low)) * ah)) 10)))])) ∧ tm 8 = .lit (.int .i64 (i64.wrap ((i64.wrap (bl + bZ.Low)) + (i64.wrap (Int.tdiv (i64.wrap ((i64.wrap (bZ.High - bZ.Low)) * ah)) 10))))) ∧ tm 9 = .lit (.int .i64 dA) ∧ True) (by refine ⟨qi, qj, qk, ?_, ?_, ql, trivial⟩ <;> first | (simp only [ua, dr, H9, lI, oq, nh, qi, qj, qk, sk, sm, ql, sn, nm, seval] <;> rfl) | rfl) ?_
   rintro tm ⟨wW, wX, wY, wZ, Cq, xa, _⟩
   have qm := And.intro g8 (And.intro dr (And.intro H9 (And.intro lI (And.intro oq (And.intro nh oy)))))
   obtain ⟨so, xb, h⟩ := optI h nd
   try simp only [hs] at h
   simp only [vz, qr, tyf, qm, (bG qg), (bG ow), wW, wX, wY, wZ, Cq, xa, nm, seval]
   refine dktA (F3 _ _ _ xb) ?_
   refine b5 (fun tm => tm 1 = .sl (aa cGrl bd) (List.length bd) false ∧ tm 2 = .lit (.int .i64 ah) ∧ tm 3 = .ptr 0 0 ∧ tm 7 = .ref (ik + 36) 0 (List.length (([] : List Int) ++ [i64.wrap ((i64.wrap (bl + bZ.Low)) + (i64.wrap (Int.tdiv (i64.wrap ((i64.wrap (bZ.High - bZ.Low)) * ah)) 10)))])) 1 (List.length (([] : List Int) ++ [i64.wrap ((i64.wrap (bl + bZ.Low)) + (i64.wrap (Int.tdiv (i64.wrap ((i64.wrap (bZ.High - bZ.Low)) * ah)) 10)))])) ∧ tm 9 = .lit (.int .i64 dA) ∧ tm 47 = .lit (.int .i64 (i64.wrap ((i64.wrap (bl + bZ.Low)) + (i64.wrap (Int.tdiv (i64.wrap ((i64.wrap (bZ.High - bZ.Low)) * ah)) 10))))) ∧ tm 53 = .lit (.int .i64 so) ∧ True) (by refine ⟨wW, wX, wY, wZ, xa, ?_, ?_, trivial⟩ <;> first | (simp only [ua, qm, wW, wX, wY, wZ, Cq, xa, nm, seval] <;> rfl) | rfl) ?_
   rintro tm ⟨lf, lg, lh, lY, lZ, ni, ma, _⟩
   simp only [vz, qr, tyf, qm, (bG qg), (bG ow), lf, lg, lh, lY, lZ, ni, ma, nm, seval]
   exact ⟨List.length p7, qZc _, by rw [qY]; refine ⟨p7, dA + 1, (([] : List Int) ++ [i64.wrap ((i64.wrap (bl + bZ.Low)) + (i64.wrap (Int.tdiv (i64.wrap ((i64.wrap (bZ.High - bZ.Low)) * ah)) 10)))]), i64.wrap ((i64.wrap ((i64.wrap (bl + bZ.Low)) + (i64.wrap (Int.tdiv (i64.wrap ((i64.wrap (bZ.High - bZ.Low)) * ah)) 10)))) + so), .ref (ik + 36) 0 (List.length (([] : List Int) ++ [i64.wrap ((i64.wrap (bl + bZ.Low)) + (i64.wrap (Int.tdiv (i64.wrap ((i64.wrap (bZ.High - bZ.Low)) * ah)) 10)))])) 1 (List.length (([] : List Int) ++ [i64.wrap ((i64.wrap (bl + bZ.Low)) + (i64.wrap (Int.tdiv (i64.wrap ((i64.wrap (bZ.High - bZ.Low)) * ah)) 10)))])), rfl, Int.le_trans jm (Int.le_add_one (qZe _)), bK jm lH, rfl, (show 5 ≤ ik + 50 by omega), ?_, lf, lg, lh, ?_, ?_, ?_, Or.inl ⟨ik + 36, (some 3), rfl, (by first | omega | (simp only [nm, seval]; done) | (simp only [nm, seval]; omega)), (by first | omega | (intro hh; simp only [qm, reduceCtorEq] at hh)), ?_⟩, (by first | exact h | (simp only [qm]; exact h))⟩ <;> first | (simp only [ua, qm, lf, lg, lh, lY, lZ, ni, ma, nm, seval] <;> rfl) | rfl⟩
def tZ (ad : GLs) (ah : Int) : List (List Grl) → Int → (List Int) → Option (LOut (List Int) ((List Int)))
 | [], jI, dz => some (.go dz)
 | e0 :: p0, jI, dz => Option.bind (Cl ad e0 ah) (fun r2 => Option.bind (getI r2 (i64.wrap ((List.length r2 : Int) - 1))) (fun x3 => cond (av 8 (List.length (dz ++ [x3]))) (tZ ad ah p0 (jI + 1) (dz ++ [x3])) none))
def Cr (ad : GLs) (bm : GLx) (ah : Int) : Option (List Int) := Option.bind (Cs ad bm) (fun r1 => cond (lenOk r1) (lbind (tZ ad ah r1 0 ([] : List Int)) (fun r5 => some r5) (fun c4 => some c4) (fun _ _ => none)) none)
theorem Wt (ad : GLs) (bm : GLx) (ah : Int) (R : List Int) (h : Cr ad bm ah = some R) : ag Tryz.prog G0 26 [.agg (cGLs ad), .agg (cGLx bm), .lit (.int .i64 ah)] (.tree (.sl (aa eI R) (List.length R) false)) := by
 refine ag.runR mixed Tryz.call26 Tryz.func26 rfl (by simp [Tryz.ntmps26]; kernel_rfl) ?_
 obtain ⟨KF, h, kF, kN⟩ := eC h
 simp only [Cr] at h
 obtain ⟨r6, o7, h⟩ := optI h kN
 try simp only [hs] at h
 simp only [vz, tyf, nm, seval]
 refine ktA (Wu _ _ _ o7) ?_
 refine b5 (fun tm => tm 2 = .lit (.int .i64 ah) ∧ tm 3 = .ptr 0 0 ∧ tm 13 = .sl (aa (eSl cGrl) r6) (List.length r6) false ∧ True) (by refine ⟨?_, ?_, ?_, trivial⟩ <;> first | (simp only [ua, nm, seval] <;> rfl) | rfl) ?_
 rintro tm ⟨e8, e9, aW, _⟩
 cases mJ : (lenOk r6)
 ·simp only [mJ, hs] at h
  exact absurd h kN
 simp only [mJ, hs] at h
 simp only [vz, tyf, e8, e9, aW, mJ, nm, seval]
 obtain ⟨Wv, h, Ww, Ct, Wx, qn⟩ := gp h kN
 obtain ⟨Wy, JF, h⟩ := call3 h
 obtain ⟨Wz, ub⟩ : ∃ I : Nat → St → Prop, I = (fun m st => ∃ (ra : List (List Grl)) (fa : Int) (dX : List Int) (pc : VV), m = List.length ra ∧ 0 ≤ fa ∧ List.drop (Int.toNat fa) r6 = ra ∧ st.df = [] ∧ 9 ≤ st.nx ∧ st.H 0 = some (.cells (some 28) (cGLs ad)) ∧ st.tm 2 = .lit (.int .i64 ah) ∧ st.tm 3 = .ptr 0 0 ∧ st.tm 7 = .sl (aa (eSl cGrl) r6) (List.length r6) false ∧ st.tm 8 = pc ∧ st.tm 9 = .lit (.int .i64 fa) ∧ ((∃ (β : Nat) (el : Option TypeId), pc = .ref β 0 (List.length dX) 1 (List.length dX) ∧ β < st.nx ∧ β ≠ 0 ∧ st.H β = some (.cells el (aa eI dX))) ∨ (pc = .lit (.slice none 0 0) ∧ dX = [])) ∧ Wv (Wy ra fa dX)) := ⟨_, rfl⟩
 refine loopK mixed (by kernel_rfl) Wz (List.length r6) (by rw [ub]; refine ⟨r6, 0, ([] : List Int), .lit (.slice none 0 0), rfl, qZe _, rfl, rfl, (show 9 ≤ 9 by omega), ?_, e8, e9, ?_, ?_, ?_, Or.inr ⟨rfl, rfl⟩, h⟩ <;> first | (simp only [ua, e8, e9, aW, nm, seval] <;> rfl) | rfl) ?_
 rintro m ⟨tm, H, oz, df⟩ hinv
 rw [ub] at hinv
 obtain ⟨ra, fa, dX, pc, rfl, jK, lj, hdf, JG, mb, bn, bE, de, cH, bL, sq, h⟩ := hinv
 simp only at hdf JG mb bn bE de cH bL sq
 have gw := gq (m := 9) (b := oz) (by omega)
 subst hdf JF
 rcases sq with ⟨ss, su, rfl, JH, JI, lJ⟩ | ⟨rfl, rfl⟩
 ·have zg := qa JH
  have zh := ne_f JI
  cases ra with
  | nil =>
   have lk : (decide (fa < (List.length r6 : Int))) = false := fy jK lj
   simp only [tZ, hs, reduceCtorEq] at h
   replace h := Ct _ h
   try dsimp only at h
   try simp only [hs] at h
   try simp only [vz, tyf, mJ, gw, bn, bE, de, cH, bL, mb, zg, lJ, zh, lk, nm, seval]
   refine eh (x := (.ref ss 0 (List.length dX) 1 (List.length dX))) (by first | (simp only [Tryz.results26, resV, resL, aR, ei, ej, uw, cr, tyf, mJ, gw, mb, zg, lJ, zh, lk, nm, seval] <;> rfl) | rfl) ?_
   obtain rfl := kF _ h
   refine eD ?_ ?_
   ·simp only [tre, aG, Bool.and_self]
   ·first | (simp only [outV, uw, ep, cr, tyf, nrm, aE, mJ, gw, bn, bE, de, cH, bL, mb, zg, lJ, zh, lk, nm, seval] <;> rfl) | rfl
  | cons bc ra =>
   have fO : (decide (fa < (List.length r6 : Int))) = true := fz jK lj
   have j4 := eg jK lj
   have yW := f2 jK lj mJ
   simp only [tZ, hs, reduceCtorEq] at h
   simp only [vz, tyf, mJ, gw, bn, bE, de, cH, bL, mb, zg, lJ, zh, fO, (ke j4), yW, nm, seval]
   refine km (fun tm => tm 2 = .lit (.int .i64 ah) ∧ tm 3 = .ptr 0 0 ∧ tm 7 = .sl (aa (eSl cGrl) r6) (List.length r6) false ∧ tm 8 = .ref ss 0 (List.length dX) 1 (List.length dX) ∧ tm 9 = .lit (.int .i64 fa) ∧ True) (by refine ⟨bn, bE, de, cH, bL, trivial⟩ <;> first | (simp only [ua, gw, bn, bE, de, cH, bL, mb, zg, lJ, zh, fO, yW, nm, seval] <;> rfl) | rfl) ?_
   rintro tm ⟨dm, dJ, eW, bI, mF, _⟩
   have qo := And.intro mJ (And.intro gw (And.intro mb (And.intro zg (And.intro lJ (And.intro zh (And.intro fO yW))))))
   obtain ⟨Ta, F4, h⟩ := optI h qn
   try simp only [hs] at h
   simp only [vz, tyf, qo, (ke j4), dm, dJ, eW, bI, mF, nm, seval]
   refine dktA (SX _ _ _ _ F4) ?_
   refine b5 (fun tm => tm 2 = .lit (.int .i64 ah) ∧ tm 3 = .ptr 0 0 ∧ tm 7 = .sl (aa (eSl cGrl) r6) (List.length r6) false ∧ tm 8 = .ref ss 0 (List.length dX) 1 (List.length dX) ∧ tm 9 = .lit (.int .i64 fa) ∧ tm 26 = .sl (aa eI Ta) (List.length Ta) false ∧ True) (by refine ⟨dm, dJ, eW, bI, mF, ?_, trivial⟩ <;> first | (simp only [ua, qo, dm, dJ, eW, bI, mF, nm, seval] <;> rfl) | rfl) ?_
   rintro tm ⟨eX, bM, bW, bH, bX, bF, _⟩
   obtain ⟨Cu, F5, h⟩ := optI h qn
   try simp only [hs] at h
   cases xc : (av 8 (List.length (dX ++ [Cu])))
   ·simp only [xc, hs] at h
    exact absurd h qn
   simp only [xc, hs] at h
   simp only [vz, tyf, qo, (ke j4), eX, bM, bW, bH, bX, bF, (au F5), xc, nm, seval]
   refine k_app (w := 1) (enc := eI) (xs := dX) (ys := ([Cu])) (el := su) (gg := (some 3)) (fun _ => rfl) jG ji Tryz.underlying22 (by first | rfl | assumption | (simp only [bw, bx, fw, qo, nm, seval] <;> rfl) | (simp only [bw, bx, dj, d6, dp, dq, tyf, qo, (ke j4), eX, bM, bW, bH, bX, bF, (au F5), xc, nm, seval]; done)) (by first | rfl | assumption | (simp only [bw, bx, fw, qo, nm, seval] <;> rfl) | (simp only [bw, bx, dj, d6, dp, dq, tyf, qo, (ke j4), eX, bM, bW, bH, bX, bF, (au F5), xc, nm, seval]; done)) (Nat.zero_lt_succ _) xc ?_
   simp only [vz, tyf, qo, (ke j4), eX, bM, bW, bH, bX, bF, (au F5), xc, nm, seval]
   exact ⟨List.length ra, qZc _, by rw [ub]; refine ⟨ra, fa + 1, (dX ++ [Cu]), .ref (oz + 20) 0 (List.length (dX ++ [Cu])) 1 (List.length (dX ++ [Cu])), rfl, Int.le_trans jK (Int.le_add_one (qZe _)), bK jK lj, rfl, (show 9 ≤ oz + 25 by omega), ?_, eX, bM, bW, ?_, ?_, Or.inl ⟨oz + 20, (sameEl su 3), rfl, (by first | omega | (simp only [nm, seval]; done) | (simp only [nm, seval]; omega)), (by first | omega | (intro hh; simp only [qo, reduceCtorEq] at hh)), ?_⟩, (by first | exact h | (simp only [qo]; exact h))⟩ <;> first | (simp only [ua, qo, eX, bM, bW, bH, bX, bF, nm, seval] <;> rfl) | rfl⟩
 ·cases ra with
  | nil =>
   have rb : (decide (fa < (List.length r6 : Int))) = false := fy jK lj
   simp only [tZ, hs, reduceCtorEq] at h
   replace h := Ct _ h
   try dsimp only at h
   try simp only [hs] at h
   try simp only [vz, tyf, mJ, gw, bn, bE, de, cH, bL, mb, rb, nm, seval]
   refine eh (x := (.lit (.slice none 0 0))) (by first | (simp only [Tryz.results26, resV, resL, aR, ei, ej, uw, cr, tyf, mJ, gw, mb, rb, nm, seval] <;> rfl) | rfl) ?_
   obtain rfl := kF _ h
   refine eD ?_ ?_
   ·simp only [tre, aG, Bool.and_self]
   ·first | (simp only [outV, uw, ep, cr, tyf, nrm, aE, mJ, gw, bn, bE, de, cH, bL, mb, rb, nm, seval] <;> rfl) | rfl
  | cons bc ra =>
   have iE : (decide (fa < (List.length r6 : Int))) = true := fz jK lj
   have re := eg jK lj
   have qe := f2 jK lj mJ
   simp only [tZ, hs, reduceCtorEq] at h
   simp only [vz, tyf, mJ, gw, bn, bE, de, cH, bL, mb, iE, (ke re), qe, nm, seval]
   refine km (fun tm => tm 2 = .lit (.int .i64 ah) ∧ tm 3 = .ptr 0 0 ∧ tm 7 = .sl (aa (eSl cGrl) r6) (List.length r6) false ∧ tm 8 = .lit (.slice none 0 0) ∧ tm 9 = .lit (.int .i64 fa) ∧ True) (by refine ⟨bn, bE, de, cH, bL, trivial⟩ <;> first | (simp only [ua, gw, bn, bE, de, cH, bL, mb, iE, qe, nm, seval] <;> rfl) | rfl) ?_
   rintro tm ⟨fD, fv, il, ll, fm, _⟩
   obtain ⟨Tb, zi, h⟩ := optI h qn
   try simp only [hs] at h
   simp only [vz, tyf, mJ, gw, mb, iE, (ke re), qe, fD, fv, il, ll, fm, nm, seval]
   refine dktA (SX _ _ _ _ zi) ?_
   refine b5 (fun tm => tm 2 = .lit (.int .i64 ah) ∧ tm 3 = .ptr 0 0 ∧ tm 7 = .sl (aa (eSl cGrl) r6) (List.length r6) false ∧ tm 8 = .lit (.slice none 0 0) ∧ tm 9 = .lit (.int .i64 fa) ∧ tm 26 = .sl (aa eI Tb) (List.length Tb) false ∧ True) (by refine ⟨fD, fv, il, ll, fm, ?_, trivial⟩ <;> first | (simp only [ua, gw, mb, iE, qe, fD, fv, il, ll, fm, nm, seval] <;> rfl) | rfl) ?_
   rintro tm ⟨cF, cC, cG, hJ, hT, kn, _⟩
   obtain ⟨Cv, JJ, h⟩ := optI h qn
   try simp only [hs] at h
   cases zj : (av 8 (List.length (([] : List Int) ++ [Cv])))
   ·simp only [zj, hs] at h
    exact absurd h qn
   simp only [zj, hs] at h
   simp only [vz, tyf, mJ, gw, mb, iE, (ke re), qe, cF, cC, cG, hJ, hT, kn, (au JJ), zj, nm, seval]
   refine nc (w := 1) (enc := eI) (ys := ([Cv])) (gg := (some 3)) (fun _ => rfl) jG ji Tryz.underlying22 (by first | rfl | assumption | (simp only [bw, bx, fw, gw, mb, nm, seval] <;> rfl) | (simp only [bw, bx, dj, d6, dp, dq, tyf, mJ, gw, mb, iE, (ke re), qe, cF, cC, cG, hJ, hT, kn, (au JJ), zj, nm, seval]; done)) (Nat.zero_lt_succ _) zj ?_
   simp only [vz, tyf, mJ, gw, mb, iE, (ke re), qe, cF, cC, cG, hJ, hT, kn, (au JJ), zj, nm, seval]
   exact ⟨List.length ra, qZc _, by rw [ub]; refine ⟨ra, fa + 1, (([] : List Int) ++ [Cv]), .ref (oz + 20) 0 (List.length (([] : List Int) ++ [Cv])) 1 (List.length (([] : List Int) ++ [Cv])), rfl, Int.le_trans jK (Int.le_add_one (qZe _)), bK jK lj, rfl, (show 9 ≤ oz + 25 by omega), ?_, cF, cC, cG, ?_, ?_, Or.inl ⟨oz + 20, (some 3), rfl, (by first | omega | (simp only [nm, seval]; done) | (simp only [nm, seval]; omega)), (by first | omega | (intro hh; simp only [gw, reduceCtorEq] at hh)), ?_⟩, (by first | exact h | (simp only [iE]; exact h))⟩ <;> first | (simp only [ua, gw, mb, iE, qe, cF, cC, cG, hJ, hT, kn, nm, seval] <;> rfl) | rfl⟩
abbrev RL := Grl
def firstP (l r : Int) : List GLp → Option GSpan
 | [] => none
 | p :: ps => if p.Left = l ∧ p.Right = r then some p.Space else firstP l r ps
theorem Tc {l r : Int} : ∀ (ps : List GLp) (o : Option GSpan), (∀ p ∈ ps, ¬ (l = p.Left ∧ r = p.Right)) → lastP l r ps o = o
 | [], o, _ => rfl
 | p :: ps, o, h => by
  unfold lastP
  rw [if_neg (h p (qZb ..))]
  exact Tc ps o fun q hq => h q (qZa _ hq)
theorem Td (a b : GLp) : pairGe a b = false ↔ (a.Left < b.Left ∨ a.Left = b.Left ∧ a.Right < b.Right) := by
 unfold pairGe
 by_cases h1 : a.Left > b.Left
 ·rw [decide_eq_true h1, cond_true]
  constructor
  ·intro h; cases h
  ·intro h; omega
 ·rw [decide_eq_false h1, cond_false]
  by_cases h2 : a.Left = b.Left
  ·rw [show (a.Left == b.Left) = true by simp [h2], cond_true, decide_eq_false_iff_not]
   omega
  ·rw [show (a.Left == b.Left) = false by simp [h2], cond_false]
   constructor
   ·intro _; omega
   ·intro _; rfl
theorem Te {m : Int} : ∀ (p : List GLp) (q : GLp), pairsG m (some q) p = true → ∀ x ∈ p, pairGe q x = false
 | [], _, _, x, hx => by cases hx
 | e :: p, q, h, x, hx => by
  simp only [pairsG, Bool.and_eq_true, Bool.not_eq_true'] at h
  rcases List.mem_cons.1 hx with rfl | hx
  ·exact h.2.1
  ·have h2 := Te p e h.2.2 x hx
   have h1 := h.2.1
   rw [Td] at h1 h2 ⊢
   omega
theorem Tf {m l r : Int} : ∀ (ps : List GLp) (q : Option GLp) (o : Option GSpan), pairsG m q ps = true → lastP l r ps o = (firstP l r ps).or o
 | [], q, o, _ => rfl
 | p :: ps, q, o, h => by
  have h' : pairsG m (some p) ps = true := by
   cases q <;> simp only [pairsG, Bool.and_eq_true] at h
   ·exact h.2
   ·exact h.2.2
  unfold lastP firstP
  by_cases hc : p.Left = l ∧ p.Right = r
  ·rw [if_pos hc, if_pos ⟨hc.1.symm, hc.2.symm⟩, Tc ps _ fun x hx hh => ?_]
   ·rfl
   ·have := Te ps p h' x hx
    rw [Td] at this
    omega
  ·rw [if_neg hc, if_neg fun hh => hc ⟨hh.1.symm, hh.2.symm⟩, Tf ps _ o h']
def spR (s : GLs) (a b : RL) : GSpan := if a.Word = b.Word then (firstP a.Sign b.Sign s.Pairs).getD s.Other else s.Gap
theorem Cw (a b : RL) : ∀ (p : List GLp) (i : Int), xd a b p i = match firstP a.Sign b.Sign p with | some v => some (.ret v) | none => some (.go ())
 | [], _ => rfl
 | e :: p, i => by
  simp only [xd, firstP, Cw a b p]
  by_cases h1 : e.Left = a.Sign
  ·rw [show (e.Left == a.Sign) = true by simp [h1], cond_true]
   by_cases h2 : e.Right = b.Sign
   ·rw [show (e.Right == b.Sign) = true by simp [h2], cond_true, if_pos ⟨h1, h2⟩]
   ·rw [show (e.Right == b.Sign) = false by simp [h2], cond_false, if_neg fun h => h2 h.2]
  ·rw [show (e.Left == a.Sign) = false by simp [h1], cond_false, if_neg fun h => h1 h.1]
theorem JK (s : GLs) (h : lenOk s.Pairs = true) (a b : RL) : Ck s a b = some (spR s a b) := by
 unfold Ck spR
 by_cases hw : a.Word = b.Word
 ·have : (a.Word != b.Word) = false := by simp [hw]
  rw [this, cond_false, h, cond_true, Cw, if_pos hw]
  cases firstP a.Sign b.Sign s.Pairs <;> rfl
 ·have : (a.Word != b.Word) = true := by simp [hw]
  rw [this, cond_true, if_neg hw]
theorem JL {s : GLs} (h : sheetB s = true) : pairsG (i64.wrap ((s.Widths.length : Int) - 1)) none s.Pairs = true := by
 unfold sheetB at h
 simp only [Bool.and_eq_true, tx, decide_eq_true_eq] at h
 obtain ⟨⟨⟨⟨⟨⟨⟨⟨⟨h1, h1'⟩, h2⟩, h3, h3'⟩, h4⟩, h5⟩, h6⟩, h7, h7'⟩, h8⟩, h9⟩ := h
 exact h3'
theorem Tg {s : GLs} (h : sheetB s = true) (a b : Int) : spP s a b = (firstP a b s.Pairs).getD s.Other := by
 unfold spP
 rw [Tf _ none none (JL h)]
 cases firstP a b s.Pairs <;> rfl
theorem JM {s : GLs} (h : Sh s) (a : Int) {b : Int} (hb : b < 0) : firstP a b s.Pairs = none := by
 have : ∀ ps : List GLp, (∀ p ∈ ps, 0 ≤ p.Right) → firstP a b ps = none := by
  intro ps
  induction ps with
  | nil => intro _; rfl
  | cons p ps ih =>
   intro hp
   unfold firstP
   have := hp p (qZb ..)
   rw [if_neg (by omega)]
   exact ih fun q hq => hp q (qZa _ hq)
 exact this _ fun p hp => (h.pair p hp).2.1
theorem spR_b {s : GLs} (h : sheetB s = true) (a b : RL) : 0 ≤ (spR s a b).Low ∧ (spR s a b).Low ≤ (spR s a b).High ∧ (spR s a b).High ≤ 20 := by
 unfold spR
 split
 ·rw [← Tg h]; exact spP_b (sh_of h) _ _
 ·have := (sh_of h).gap; omega
def wdR (s : GLs) (a : RL) : Int := if a.Sign < 0 then s.Hyphen else wd s a.Sign
theorem Cx {s : GLs} (h : Sh s) {a : RL} (ha : a.Sign < s.Widths.length) : zb s a = some (wdR s a) ∧ 1 ≤ wdR s a ∧ wdR s a ≤ 20 := by
 unfold zb wdR
 by_cases h0 : a.Sign < 0
 ·rw [decide_eq_true h0, cond_true, if_pos h0]
  exact ⟨rfl, h.hyp⟩
 ·have := wP h (by omega) ha
  rw [decide_eq_false h0, cond_false, if_neg h0, this.1]
  exact ⟨rfl, this.2⟩
def tailW (s : GLs) (k : Int) : RL → List RL → Int
 | _, [] => 0
 | a, b :: l => wi k (spR s a b) + wdR s b + tailW s k b l
def lineW (s : GLs) (k : Int) : List RL → Int
 | [] => 0
 | a :: l => wdR s a + tailW s k a l
theorem Th {s : GLs} (h : sheetB s = true) (hp : lenOk s.Pairs = true) {k : Int} (h0 : 0 ≤ k) (h1 : k ≤ 10) (l : List RL) (hl : l.length ≤ 900) : ∀ (p : List RL) (q : RL) (i : Int) (acc : List Int) (x : Int), (∀ a ∈ p, a.Sign < s.Widths.length) → 1 ≤ i → l.drop (i - 1).toNat = q :: p → acc.length = i.toNat → 0 ≤ x → x + 40 * p.length ≤ 1000000 →
  ∃ acc' : List Int, acc'.length ≤ 900 ∧ pb s l k p i acc x = some (.go (acc', x + tailW s k q p))
 | [], q, i, acc, x, _, hi, hd, ha, _, _ => by
  have := vy hd
  simp only [List.length_cons, List.length_nil, reduceCtorEq, or_false] at this
  exact ⟨acc, by omega, by simp [pb, tailW]⟩
 | e :: p, q, i, acc, x, hs, hi, hd, ha, hP, hx => by
  have hle := vy hd
  simp only [List.length_cons, reduceCtorEq, or_false] at hle hx
  have hg := xe hi (by omega) hd
  obtain ⟨w1, w2, w3⟩ := Cx (sh_of h) (hs e (qZb ..))
  have hb := spR_b h q e
  have hw := wi_b hb h0 h1
  have hww := hw
  unfold wi at hww
  have e1 : i64.wrap ((i64.wrap (x + (spR s q e).Low)) + (i64.wrap (Int.tdiv (i64.wrap ((i64.wrap ((spR s q e).High - (spR s q e).Low)) * k)) 10))) = x + wi k (spR s q e) := by
   unfold wi
   rw [jd (n := (spR s q e).High - (spR s q e).Low) (by omega) (by omega), jd (n := ((spR s q e).High - (spR s q e).Low) * k) (by omega) (by omega), jd (n := Int.tdiv _ 10) (by omega) (by omega), jd (n := x + (spR s q e).Low) (by omega) (by omega), jd (by omega) (by omega)]
   omega
  simp only [pb]
  rw [decide_eq_true (by omega), cond_true, hg, Option.bind_some, JK s hp, Option.bind_some, e1, roomOk8 (by simp; omega), cond_true, w1, Option.bind_some, jd (by omega) (by omega)]
  obtain ⟨acc', a1, a2⟩ := Th h hp h0 h1 l hl p e (i + 1) (acc ++ [x + wi k (spR s q e)]) (x + wi k (spR s q e) + wdR s e) (fun a ha => hs a (qZa _ ha)) (by omega) (by
   have := bK (i := i - 1) (by omega) hd
   rwa [show i - 1 + 1 = i + 1 - 1 by omega] at this) (by simp; omega) (by omega) (by omega)
  refine ⟨acc', a1, ?_⟩
  rw [a2, tailW]
  congr 3
  omega
theorem JN {s : GLs} (h : sheetB s = true) (hp : lenOk s.Pairs = true) {k : Int} (h0 : 0 ≤ k) (h1 : k ≤ 10) (l : List RL) (hl : l.length ≤ 900) (hs : ∀ a ∈ l, a.Sign < s.Widths.length) : ∃ acc : List Int, Cl s l k = some (acc ++ [lineW s k l]) ∧ acc.length ≤ 900 := by
 unfold Cl
 rw [oV (by omega), cond_true]
 cases l with
 | nil => exact ⟨[], by simp only [pb, mY]; rfl, by simp⟩
 | cons a p =>
  obtain ⟨w1, w2, w3⟩ := Cx (sh_of h) (hs a (qZb ..))
  simp only [List.length_cons] at hl
  obtain ⟨acc, a1, a2⟩ := Th h hp h0 h1 (a :: p) (by simp; omega) p a 1 [0] (wdR s a) (fun b hb => hs b (qZa _ hb)) (qZe _) rfl rfl (by omega) (by omega)
  refine ⟨acc, ?_, a1⟩
  rw [show pb s (a :: p) k (a :: p) 0 [] 0 = pb s (a :: p) k p 1 [0] (wdR s a) by
   simp only [pb, w1, Option.bind_some]
   rw [show decide ((0 : Int) > 0) = false from rfl, cond_false, List.nil_append, show av 8 (List.length [(0 : Int)]) = true from rfl, cond_true, jd (by omega) (by omega), Int.zero_add, Int.zero_add], a2, mY]
  simp only
  rw [roomOk8 (by simp; omega), cond_true]
  rfl
theorem Ti {s : GLs} (h : sheetB s = true) (hp : lenOk s.Pairs = true) {k : Int} (h0 : 0 ≤ k) (h1 : k ≤ 10) : ∀ (ls : List (List RL)) (i : Int) (acc : List Int), (∀ l ∈ ls, l.length ≤ 900 ∧ ∀ a ∈ l, a.Sign < s.Widths.length) → acc.length + ls.length ≤ 1000 → tZ s k ls i acc = some (.go (acc ++ ls.map (lineW s k)))
 | [], i, acc, _, _ => by simp [tZ]
 | l :: ls, i, acc, hl, ha => by
  simp only [List.length_cons] at ha
  obtain ⟨b1, b2⟩ := hl l (qZb ..)
  obtain ⟨c, c1, c2⟩ := JN h hp h0 h1 l b1 b2
  have hg : getI (c ++ [lineW s k l]) (i64.wrap ((List.length (c ++ [lineW s k l]) : Int) - 1)) = some (lineW s k l) := by
   simp only [List.length_append, List.length_singleton]
   rw [jd (by omega) (by omega), show ((c.length + 1 : Nat) : Int) - 1 = (c.length : Nat) by omega]
   exact F6 (by simp)
  simp only [tZ, c1, Option.bind_some, hg]
  rw [roomOk8 (by simp; omega), cond_true, Ti h hp h0 h1 ls (i + 1) _ (fun l' hl' => hl l' (qZa _ hl')) (by simp; omega)]
  simp
def upTo (e : GLe) : List FL → List FL × List FL
 | [] => ([], [])
 | f :: fl => if e = f.1 then ([f], fl) else (f :: (upTo e fl).1, (upTo e fl).2)
def segs : List GLe → List FL → List (List FL)
 | [], _ => []
 | e :: es, fl => (upTo e fl).1 :: segs es (upTo e fl).2
def toRL (f : FL) : RL := Grl.mk f.1.Word f.2.1
def hyR (f : FL) : List RL := cond f.2.2 [Grl.mk f.1.Word (-1)] []
def lineOf : List FL → List RL
 | [] => []
 | [f] => toRL f :: hyR f
 | f :: g :: l => toRL f :: lineOf (g :: l)
def mseg (r : Int) : List FL → List Glm
 | [] => []
 | [f] => [Glm.mk f.1.Word f.2.1 r f.2.2]
 | f :: g :: l => Glm.mk f.1.Word f.2.1 r false :: mseg r (g :: l)
theorem JO {e : GLe} : ∀ (fl : List FL) (es : List GLe), AL (e :: es) fl → ∃ f l, (upTo e fl).1 = f :: l
 | [], _, h => h.elim
 | f :: fl, es, h => by
  unfold upTo
  by_cases he : e = f.1
  ·rw [if_pos he]; exact ⟨f, [], rfl⟩
  ·rw [if_neg he]; exact ⟨f, _, rfl⟩
theorem Cy {e : GLe} {es : List GLe} {r : Int} : ∀ (fl : List FL), AL (e :: es) fl → (mkS (e :: es) fl r).1 = mseg r (upTo e fl).1 ++ (mkS es (upTo e fl).2 (r + 1)).1 ∧ AL es (upTo e fl).2
 | [], h => h.elim
 | f :: fl, h => by
  unfold AL at h
  unfold upTo
  by_cases he : e = f.1
  ·rw [if_pos he] at h
   rw [wD he, if_pos he]
   exact ⟨rfl, h⟩
  ·rw [if_neg he] at h
   rw [wE he, if_neg he]
   obtain ⟨i1, i2⟩ := Cy (r := r) fl h
   obtain ⟨g, l, hg⟩ := JO fl es h
   refine ⟨?_, i2⟩
   simp only [i1, hg, mseg, List.cons_append]
theorem JP : ∀ (es : List GLe) (fl : List FL) (r : Int), ∀ m ∈ (mkS es fl r).1, r ≤ m.row
 | es, [], r, m, h => by cases es <;> simp [mkS] at h
 | [], f :: fl, r, m, h => by simp [mkS] at h
 | e :: es, f :: fl, r, m, h => by
  by_cases he : e = f.1
  ·rw [wD he] at h
   rcases List.mem_cons.1 h with rfl | h
   ·exact qZe _
   ·have := JP es fl (r + 1) m h
    omega
  ·rw [wE he] at h
   rcases List.mem_cons.1 h with rfl | h
   ·exact qZe _
   ·exact JP (e :: es) fl r m h
theorem JQ {s : GLs} {k j : Int} : ∀ (ms : List Glm), (∀ m ∈ ms, m.row ≠ j) → addL s k j ms = []
 | [], _ => rfl
 | m :: ms, h => by
  unfold addL
  rw [if_neg (h m (qZb ..)), JQ ms fun x hx => h x (qZa _ hx)]
  rfl
theorem Tj {s : GLs} {k j r : Int} (hj : r ≠ j) : ∀ (seg : List FL) (B : List Glm), addL s k j (mseg r seg ++ B) = addL s k j B
 | [], B => rfl
 | [f], B => by
  simp only [mseg, List.cons_append, List.nil_append]
  unfold addL
  rw [if_neg hj, List.nil_append]
  cases B <;> rfl
 | f :: g :: l, B => by
  have := Tj (s := s) (k := k) hj (g :: l) B
  simp only [mseg, List.cons_append]
  rw [addL, if_neg hj, List.nil_append]
  exact this
theorem JR (g : FL) (l : List FL) : ∃ t, lineOf (g :: l) = toRL g :: t := by
 cases l with
 | nil => exact ⟨_, rfl⟩
 | cons h l => exact ⟨_, rfl⟩
theorem JS (r : Int) (g : FL) (l : List FL) : ∃ m t, mseg r (g :: l) = m :: t ∧ m.word = g.1.Word ∧ m.sign = g.2.1 ∧ m.row = r := by
 cases l with
 | nil => exact ⟨_, _, rfl, rfl, rfl, rfl⟩
 | cons h l => exact ⟨_, _, rfl, rfl, rfl, rfl⟩
theorem Cz {s : GLs} (h : sheetB s = true) {k r : Int} (B : List Glm) (hB : ∀ m ∈ B, m.row ≠ r) : ∀ (seg : List FL), (∀ f ∈ seg, 0 ≤ f.2.1) → (addL s k r (mseg r seg ++ B)).sum = lineW s k (lineOf seg)
 | [], _ => by
  simp only [mseg, List.nil_append, JQ B hB]
  rfl
 | [f], hf => by
  have h0 := hf f (qZb ..)
  simp only [mseg, List.cons_append, List.nil_append, lineOf, lineW]
  have e1 : wdR s (toRL f) = wd s f.2.1 := by
   unfold wdR toRL
   simp only
   rw [if_neg (by omega)]
  rw [addL, if_pos rfl, JQ B hB, List.append_nil, e1]
  cases hh : f.2.2 with
  | true =>
   have e2 : spR s (toRL f) (Grl.mk f.1.Word (-1)) = s.Other := by
    unfold spR toRL
    simp only
    rw [if_pos trivial, JM (sh_of h) _ (by omega)]
    rfl
   have e3 : wdR s (Grl.mk f.1.Word (-1)) = s.Hyphen := by
    unfold wdR; exact if_pos (show (-1 : Int) < 0 by omega)
   have e4 : spF s k (Glm.mk f.1.Word f.2.1 r true) B.head? = wi k s.Other := by cases B <;> rfl
   simp only [hyR, hh, cond_true, tailW, e2, e3, e4, List.cons_append, List.nil_append, List.sum_cons, List.sum_nil]
   omega
  | false =>
   have e4 : spF s k (Glm.mk f.1.Word f.2.1 r false) B.head? = 0 := by
    cases B with
    | nil => rfl
    | cons b B =>
     have := hB b (qZb ..)
     show (if b.row = r then _ else (0 : Int)) = 0
     rw [if_neg this]
   simp only [hyR, hh, cond_false, tailW, e4, List.append_nil, List.sum_cons, List.sum_nil]
   omega
 | f :: g :: l, hf => by
  have h0 := hf f (qZb ..)
  have ih := Cz h (k := k) B hB (g :: l) fun x hx => hf x (qZa _ hx)
  obtain ⟨t, ht⟩ := JR g l
  obtain ⟨m, u, hm, m1, m2, m3⟩ := JS r g l
  have e1 : wdR s (toRL f) = wd s f.2.1 := by
   unfold wdR toRL
   simp only
   rw [if_neg (by omega)]
  have e2 : spF s k (Glm.mk f.1.Word f.2.1 r false) (mseg r (g :: l) ++ B).head? = wi k (spR s (toRL f) (toRL g)) := by
   rw [hm]
   show (if m.row = r then (if m.word = f.1.Word then wi k (spP s f.2.1 m.sign) else wi k s.Gap) else (0 : Int)) = _
   rw [if_pos m3, m1, m2, Tg h]
   unfold spR toRL
   simp only
   by_cases hw : g.1.Word = f.1.Word
   ·rw [if_pos hw, if_pos hw.symm]
   ·rw [if_neg hw, if_neg fun h => hw h.symm]
  simp only [mseg, List.cons_append, lineOf, lineW]
  rw [addL, if_pos rfl, ht]
  rw [ht] at ih
  simp only [cond_false, List.append_nil, List.sum_append, List.sum_cons, List.sum_nil, ih, e1, e2, lineW, tailW]
  omega
theorem Tk (s : GLs) (k : Int) {A B : List Glm} : ∀ (n : Nat) (r : Int), (∀ j, r ≤ j → addL s k j A = addL s k j B) → rowsL s k A n r = rowsL s k B n r
 | 0, r, _ => rfl
 | n + 1, r, h => by
  rw [rowsL, rowsL, rowF, rowF, h r (qZe _), Tk s k n (r + 1) fun j hj => h j (by omega)]
theorem Tl {s : GLs} (h : sheetB s = true) (k : Int) : ∀ (es : List GLe) (fl : List FL) (r : Int), AL es fl → (∀ f ∈ fl, 0 ≤ f.2.1) → rowsL s k (mkS es fl r).1 es.length r = (segs es fl).map fun g => lineW s k (lineOf g)
 | [], fl, r, _, _ => rfl
 | e :: es, fl, r, ha, hf => by
  obtain ⟨i1, i2⟩ := Cy (r := r) fl ha
  have hB : ∀ m ∈ (mkS es (upTo e fl).2 (r + 1)).1, m.row ≠ r := fun m hm => by
   have := JP es _ (r + 1) m hm
   omega
  have up : ∀ fl : List FL, (∀ f ∈ (upTo e fl).1, f ∈ fl) ∧ ∀ f ∈ (upTo e fl).2, f ∈ fl := by
   intro fl
   induction fl with
   | nil => exact ⟨fun f hf => hf, fun f hf => hf⟩
   | cons g fl ih =>
    unfold upTo
    split
    ·exact ⟨fun f hf => by simp at hf; simp [hf], fun f hf => qZa _ hf⟩
    ·refine ⟨fun f hf => ?_, fun f hf => qZa _ (ih.2 f hf)⟩
     rcases List.mem_cons.1 hf with rfl | hf
     ·exact qZb ..
     ·exact qZa _ (ih.1 f hf)
  rw [List.length_cons, rowsL, rowF, i1, Cz h _ hB _ fun f hx => hf f ((up fl).1 f hx)]
  rw [Tk s k (B := (mkS es (upTo e fl).2 (r + 1)).1) es.length (r + 1) fun j hj => Tj (by omega) _ _]
  rw [Tl h k es _ (r + 1) i2 fun f hx => hf f ((up fl).2 f hx)]
  rfl
theorem Tm (c al : Int) (lo hi : Nat) : ∀ (cs : List Int) (k : Nat), ((letW c al cs (k : Int)).filter fun f => decide ((lo : Int) < f.1.Letters ∧ f.1.Letters ≤ (hi : Int))).map toRL = ((cs.take (hi - k)).drop (lo - k)).map (Grl.mk c)
 | [], k => by simp [letW]
 | x :: cs, k => by
  have ih := Tm c al lo hi cs (k + 1)
  rw [show ((k + 1 : Nat) : Int) = (k : Int) + 1 by omega] at ih
  simp only [letW]
  by_cases h1 : (lo : Int) < (k : Int) + 1
  ·by_cases h2 : (k : Int) + 1 ≤ (hi : Int)
   ·rw [List.filter_cons_of_pos (by simp only [decide_eq_true_eq]; exact ⟨h1, h2⟩), List.map_cons, ih, show hi - k = (hi - (k + 1)) + 1 by omega, show lo - k = 0 by omega, show lo - (k + 1) = 0 by omega]
    simp [toRL]
   ·rw [List.filter_cons_of_neg (by simp only [decide_eq_true_eq]; exact fun h => h2 h.2), ih, show hi - k = 0 by omega, show hi - (k + 1) = 0 by omega]
    simp
  ·rw [List.filter_cons_of_neg (by simp only [decide_eq_true_eq]; exact fun h => h1 h.1), ih, show lo - k = (lo - (k + 1)) + 1 by omega]
   by_cases h2 : k < hi
   ·rw [show hi - k = (hi - (k + 1)) + 1 by omega]; simp
   ·rw [show hi - k = 0 by omega, show hi - (k + 1) = 0 by omega]; simp
theorem W6 {cs : List Int} {i n : Nat} {x : Int} (h : cs[i]? = some x) : (cs.take (i + (n + 1))).drop i = x :: (cs.take (i + 1 + n)).drop (i + 1) := by
 rw [show i + (n + 1) = i + 1 + n by omega]
 have : (cs.take (i + 1 + n))[i]? = some x := by rw [List.getElem?_take_of_lt (by omega)]; exact h
 obtain ⟨hl, hx⟩ := List.getElem?_eq_some_iff.1 this
 rw [List.drop_eq_getElem_cons hl, hx]
theorem C0 (c : Int) (w : GLw) : ∀ (n i : Nat) (acc : List RL), (n = 0 ∨ i + n ≤ w.Signs.length) → acc.length + n ≤ 900 → qp c w n (i : Int) acc = some (.go (acc ++ ((w.Signs.take (i + n)).drop i).map (Grl.mk c)))
 | 0, i, acc, _, _ => by
  have : ((w.Signs.take (i + 0)).drop i) = [] := List.drop_eq_nil_of_le (by simp; omega)
  simp [qp]
 | n + 1, i, acc, h, ha => by
  have hl : i < w.Signs.length := by omega
  have hg : w.Signs[i]? = some w.Signs[i] := qZh hl
  have ih := C0 c w n (i + 1) (acc ++ [Grl.mk c w.Signs[i]]) (by omega) (by simp; omega)
  rw [show ((i + 1 : Nat) : Int) = (i : Int) + 1 by omega] at ih
  rw [qp, F6 hg, Option.bind_some, roomOk16 (by simp; omega), cond_true, ih, W6 hg]
  simp
def btw (a e : GLe) (f : FL) : Bool := decide (befE a f.1) && !decide (befE e f.1)
theorem C1 {s : GLs} (h : Sh s) {out : List Int} (ho : lenOk out = true) {a e : GLe} (ha : 0 ≤ a.Word) (zk : 0 ≤ a.Letters) (hae : befE a e) {we : GLw} (hwe : getI s.Words e.Word = some we) (Tn : 0 ≤ e.Letters) (W7 : e.Letters ≤ we.Signs.length) : ∀ (ws : List GLw) (k : Nat) (c : Int) (acc : List RL), a.Word ≤ c → c ≤ e.Word + 1 → s.Words.drop c.toNat = ws → e.Word + 1 - c < k → acc.length + 6 * ws.length ≤ 900 →
  t8 s out a e k acc c = some (.go (acc ++ ((ltrsL out ws c).filter (btw a e)).map toRL, e.Word + 1))
 | ws, 0, c, acc, _, _, _, hk, _ => by omega
 | ws, k + 1, c, acc, hc, To, hd, hk, hl => by
  have hlt := w8 hwe
  have hnw := h.nw
  by_cases hce : c ≤ e.Word
  ·match ws, hd, hl with
   | [], hd, _ =>
    have := congrArg List.length hd
    simp only [List.length_drop, List.length_nil] at this
    omega
   | w :: ws, hd, hl =>
    simp only [List.length_cons] at hl
    have hg := eg (by omega) hd
    have hwm := BB hg
    have hwl := h.wlen w hwm
    have ih := fun acc hh => C1 h ho ha zk hae hwe Tn W7 ws k (c + 1) acc (by omega) (by omega) (bK (by omega) hd) (by omega) hh
    have wr : i64.wrap (c + 1) = c + 1 := jd (by omega) (by omega)
    rw [t8, decide_eq_true hce, cond_true, zl out c ho, Option.bind_some, wr, ltrsL]
    cases hco : out.contains c with
    | true => rw [cond_true, cond_true, ih acc (by omega)]
    | false =>
     rw [cond_false, cond_false, hg, Option.bind_some, List.filter_append, List.map_append]
     have hf : ∀ lo hi : Nat, (∀ f : FL, f.1.Word = c → 1 ≤ f.1.Letters → f.1.Letters ≤ w.Signs.length → btw a e f = decide ((lo : Int) < f.1.Letters ∧ f.1.Letters ≤ (hi : Int))) → ((letW c (w.Signs.length : Int) w.Signs 0).filter (btw a e)).map toRL = ((w.Signs.take hi).drop lo).map (Grl.mk c) := by
      intro lo hi hh
      rw [List.filter_congr fun f hf => hh f (tP hf).1 (by have := (tP hf).2.1; omega) (by have := (tP hf).2.2.1; omega)]
      exact Tm c _ lo hi w.Signs 0
     have bt : ∀ (lo hi : Nat) (f : FL), (befE a f.1 ∧ ¬ befE e f.1 ↔ (lo : Int) < f.1.Letters ∧ f.1.Letters ≤ (hi : Int)) → btw a e f = decide ((lo : Int) < f.1.Letters ∧ f.1.Letters ≤ (hi : Int)) := by
      intro lo hi f hh
      unfold btw
      rw [Bool.eq_iff_iff]
      simp only [Bool.and_eq_true, Bool.not_eq_true', decide_eq_true_eq, decide_eq_false_iff_not]
      exact hh
     obtain ⟨lo, hlo⟩ : ∃ lo : Nat, cond (c == a.Word) a.Letters 0 = (lo : Int) := by
      cases c == a.Word with
      | true => exact Int.eq_ofNat_of_zero_le zk
      | false => exact ⟨0, rfl⟩
     obtain ⟨hi, hhi⟩ : ∃ hi : Nat, cond (c == e.Word) e.Letters (w.Signs.length : Int) = (hi : Int) := by
      cases c == e.Word with
      | true => exact Int.eq_ofNat_of_zero_le Tn
      | false => exact ⟨_, rfl⟩
     have vlo : (lo : Int) = if c = a.Word then a.Letters else 0 := by
      rw [← hlo]
      by_cases h1 : c = a.Word
      ·rw [if_pos h1, show (c == a.Word) = true by simp [h1], cond_true]
      ·rw [if_neg h1, show (c == a.Word) = false by simp [h1], cond_false]
     have vhi : (hi : Int) = if c = e.Word then e.Letters else (w.Signs.length : Int) := by
      rw [← hhi]
      by_cases h1 : c = e.Word
      ·rw [if_pos h1, show (c == e.Word) = true by simp [h1], cond_true]
      ·rw [if_neg h1, show (c == e.Word) = false by simp [h1], cond_false]
     have hhl : hi ≤ w.Signs.length := by
      by_cases h1 : c = e.Word
      ·have : w = we := by rw [h1, hwe] at hg; exact (Option.some.inj hg).symm
       subst this
       rw [if_pos h1] at vhi; omega
      ·rw [if_neg h1] at vhi; omega
     rw [hlo, hhi, hf lo hi fun f g1 g2 g3 => bt lo hi f (by
      unfold befE
      by_cases h1 : c = a.Word
      ·by_cases h2 : c = e.Word
       ·rw [if_pos h1] at vlo; rw [if_pos h2] at vhi; omega
       ·rw [if_pos h1] at vlo; rw [if_neg h2] at vhi; omega
      ·by_cases h2 : c = e.Word
       ·rw [if_neg h1] at vlo; rw [if_pos h2] at vhi; omega
       ·rw [if_neg h1] at vlo; rw [if_neg h2] at vhi; omega)]
     rw [show boundOk (hi : Int) = true from decide_eq_true (by omega), cond_true, show loOk (lo : Int) = true from decide_eq_true (by omega), cond_true, show Int.toNat ((hi : Int) - (lo : Int)) = hi - lo by omega]
     rw [C0 c w (hi - lo) lo acc (by omega) (by omega), mY]
     have hsame : (w.Signs.take (lo + (hi - lo))).drop lo = (w.Signs.take hi).drop lo := by
      by_cases h1 : lo ≤ hi
      ·rw [show lo + (hi - lo) = hi by omega]
      ·rw [List.drop_eq_nil_of_le (by simp; omega), List.drop_eq_nil_of_le (by simp; omega)]
     rw [hsame, ih _ (by simp; omega)]
     simp
  ·have hc' : c = e.Word + 1 := by omega
   have hn : (ltrsL out ws c).filter (btw a e) = [] := by
    rw [List.filter_eq_nil_iff]
    intro f hf
    have := (yU hf).1
    unfold btw
    simp only [Bool.and_eq_true, Bool.not_eq_true', decide_eq_true_eq, decide_eq_false_iff_not, not_and, Classical.not_not]
    intro _
    unfold befE
    omega
   rw [t8, decide_eq_false hce, cond_false, hn, hc']
   simp
def xf (cQ : List Int) : List Int → Int → Option (LOut (Bool) (Unit))
 | [], bB => some (.go ())
 | e0 :: p0, bB => Option.bind (getI cQ bB) (fun x1 => cond (e0 != x1) (some (.ret false)) (xf cQ p0 (bB + 1)))
def C2 (cy : List Int) (cQ : List Int) : Option (Bool) := cond ((List.length cy : Int) != (List.length cQ : Int)) (some false) (cond (lenOk cy) (lbind (xf cQ cy 0) (fun r3 => some r3) (fun c2 => some true) (fun _ _ => none)) none)
theorem W8 (cy : List Int) (cQ : List Int) (R : Bool) (h : C2 cy cQ = some R) : ag Tryz.prog G0 25 [.sl (aa eI cy) (List.length cy) false, .sl (aa eI cQ) (List.length cQ) false] (.tree (.lit (.bool R))) := by
 refine ag.runR mixed Tryz.call25 Tryz.func25 rfl (by simp [Tryz.ntmps25]; kernel_rfl) ?_
 obtain ⟨KF, h, kF, kN⟩ := eC h
 simp only [C2] at h
 cases d4 : ((List.length cy : Int) != (List.length cQ : Int))
 ·simp only [d4, hs] at h
  cases g6 : (lenOk cy)
  ·simp only [g6, hs] at h
   exact absurd h kN
  simp only [g6, hs] at h
  simp only [vz, tyf, d4, g6, nm, seval]
  obtain ⟨K5, h, zm, v7, JT, sv⟩ := gp h kN
  obtain ⟨f5, xg, h⟩ := call2 h
  obtain ⟨I5, nM⟩ : ∃ I : Nat → St → Prop, I = (fun m st => ∃ (p5 : List Int) (dB : Int), m = List.length p5 ∧ 0 ≤ dB ∧ List.drop (Int.toNat dB) cy = p5 ∧ st.df = [] ∧ 7 ≤ st.nx ∧ st.tm 0 = .sl (aa eI cy) (List.length cy) false ∧ st.tm 1 = .sl (aa eI cQ) (List.length cQ) false ∧ st.tm 5 = .lit (.int .i64 dB) ∧ K5 (f5 p5 dB)) := ⟨_, rfl⟩
  refine loopK mixed (by kernel_rfl) I5 (List.length cy) (by rw [nM]; refine ⟨cy, 0, rfl, qZe _, rfl, rfl, (show 7 ≤ 7 by omega), ?_, ?_, ?_, h⟩ <;> first | (simp only [ua, d4, nm, seval] <;> rfl) | rfl) ?_
  rintro m ⟨tm, H, nN, df⟩ hinv
  rw [nM] at hinv
  obtain ⟨p5, dB, rfl, hU, jf, hdf, xh, e7, e8, e9, h⟩ := hinv
  simp only at hdf xh e7 e8 e9
  have nj := gq (m := 7) (b := nN) (by omega)
  subst hdf xg
  cases p5 with
  | nil =>
   have gu : (decide (dB < (List.length cy : Int))) = false := fy hU jf
   simp only [xf, hs, reduceCtorEq] at h
   replace h := v7 _ h
   try dsimp only at h
   try simp only [hs] at h
   try simp only [vz, tyf, d4, g6, nj, e7, e8, e9, gu, nm, seval]
   obtain rfl := kF _ h
   exact bz Tryz.results25 rfl
  | cons e5 p5 =>
   have cl : (decide (dB < (List.length cy : Int))) = true := fz hU jf
   have mK := eg hU jf
   have mM := f2 hU jf g6
   simp only [xf, hs, reduceCtorEq] at h
   simp only [vz, tyf, d4, g6, nj, e7, e8, e9, cl, (au mK), mM, nm, seval]
   refine km (fun tm => tm 0 = .sl (aa eI cy) (List.length cy) false ∧ tm 1 = .sl (aa eI cQ) (List.length cQ) false ∧ tm 5 = .lit (.int .i64 dB) ∧ True) (by refine ⟨e7, e8, e9, trivial⟩ <;> first | (simp only [ua, d4, nj, e7, e8, e9, cl, mM, nm, seval] <;> rfl) | rfl) ?_
   rintro tm ⟨bE, de, cH, _⟩
   obtain ⟨W9, qq, h⟩ := optI h sv
   try simp only [hs] at h
   cases cB : (e5 != W9)
   ·simp only [cB, hs] at h
    simp only [vz, tyf, d4, g6, nj, cl, (au mK), mM, bE, de, cH, (au qq), cB, nm, seval]
    exact ⟨List.length p5, qZc _, by rw [nM]; refine ⟨p5, dB + 1, rfl, Int.le_trans hU (Int.le_add_one (qZe _)), bK hU jf, rfl, (show 7 ≤ nN + 16 by omega), bE, de, ?_, (by first | exact h | (simp only [d4, cl, cB]; exact h))⟩ <;> first | (simp only [ua, d4, nj, cl, mM, bE, de, cH, cB, nm, seval] <;> rfl) | rfl⟩
   simp only [cB, hs] at h
   try simp only [vz, tyf, d4, g6, nj, cl, (au mK), mM, bE, de, cH, (au qq), cB, nm, seval]
   replace h := zm _ h
   try dsimp only at h
   obtain rfl := kF _ h
   exact bz Tryz.results25 rfl
 simp only [d4, hs] at h
 try simp only [vz, tyf, d4, nm, seval]
 obtain rfl := kF _ h
 exact bz Tryz.results25 rfl
end Go.V
end
